/- Of what the proof is made: 4 texts, one behind the other. -/
import Derived.Test.YtgpghapnmalipaaGreatDoorM24
import Derived.Test.YtgpghapnmalipaaGreatDoorM25
import Derived.Test.YtgpghapnmalipaaGreatDoorMp1
import Derived.Test.YtgpghapnmalipaaGreatDoorM15
import Derived.Test.YtgpghapnmalipaaGreatDoorM2
import Derived.Test.YtgpghapnmalipaaGreatDoorM3
namespace Go.Proofs.YtgpghapnmalipaaGreatDoor
open Go.RowKit Corb
def shortB (a b : ByteArray) : ByteArray := if b.size < a.size then b else a
theorem shortB_yes {a b : ByteArray} (h : b.size < a.size) : shortB a b = b := if_pos h
theorem shortB_no {a b : ByteArray} (h : ¬ b.size < a.size) : shortB a b = a := if_neg h
def byO (s : ByteArray) : ByteArray := ⟨(ownedL s).toArray⟩
def flateB (s : ByteArray) : ByteArray := shortB (shortB (byS s) (byF s)) (byO s)
def bestK (s : ByteArray) : Nat → ByteArray
  | 1 => byS s
  | 2 => shortB (byS s) (byF s)
  | _ => flateB s
theorem byO_long (s : ByteArray) (h : ¬ s.size ≤ 300) : byO s = ⟨#[]⟩ := by unfold byO ownedL; rw [if_neg h]
theorem flateB_long (s : ByteArray) (h : ¬ s.size ≤ 300) : flateB s = ⟨#[]⟩ := by
  unfold flateB
  rw [byS_long s h, byF_long s h, byO_long s h]
  rfl
theorem textP_len (l : List (Int × Int)) : (textP l).length = ((valP l).2 + 7) / 8 := by unfold textP; exact leS_len _ _
theorem small_of {l : List UInt8} (h : l.length ≤ 100000) : ((⟨l.toArray⟩ : ByteArray).size : Int) ≤ 100000 := by
  have : (⟨l.toArray⟩ : ByteArray).size = l.length := by simp [ByteArray.size]
  omega
theorem allBits {l : List (Int × Int)} (h : lOk l = true) : (valP l).2 ≤ 64000 := by
  unfold lOk at h
  simp only [Bool.and_eq_true, decide_eq_true_eq] at h
  have h1 := outP_bits (0, 0) l (fun x hx => by
    have h2 := h.1
    unfold allOk at h2
    exact (pOk_true.1 (List.all_eq_true.1 h2 x hx)).1.2)
  have h3 : outP (0, 0) l = valP l := rfl
  rw [h3] at h1
  omega
theorem below_putObj {B : Nat} {a w : World} (h : Below B a w) {r : Nat} (hB : B ≤ w.heap.size) (hr : B ≤ r) (o : Obj) : Below B a (w.putObj r o) := h.grown (grownBy_putObj' w r o) hB (fun j hj => by cases hj; exact hr)
theorem by_small (s : ByteArray) : ((byS s).size : Int) ≤ 100000 ∧ ((byF s).size : Int) ≤ 100000 ∧ ((byO s).size : Int) ≤ 100000 := by
  by_cases hs : s.size ≤ 300
  · have hT := toks_len s hs
    have hk := toks_ok s
    refine ⟨small_of ?_, small_of ?_, small_of ?_⟩
    · unfold storeL
      split
      · rw [List.length_append, leS_len, str_len]; omega
      · simp
    · unfold fixedL
      rw [if_pos hs]
      show (textP (fixP s)).length ≤ _
      rw [textP_len]
      have h1 := allBits (fixP_ok s hs)
      omega
    · unfold ownedL
      rw [if_pos hs]
      show (textP (ownP _)).length ≤ _
      rw [textP_len]
      have h1 := allBits (ownP_ok _ hT hk)
      omega
  · rw [byS_long s hs, byF_long s hs, byO_long s hs]
    exact ⟨by decide, by decide, by decide⟩
set_option maxRecDepth 100000 in
set_option maxHeartbeats 6400000 in
theorem implFlatePut_any (s : ByteArray) (w : World) (hs : s.size ≤ 1048576) (hO : OrdC w) :
    Calls Tryz.prog 33 #[.string s] w fun e w' => e = .returned (.string (flateB s)) ∧ Below w.heap.size w w' := by
  have hmm := @run_makeMap Tryz.prog
  have hu := Tryz.underlying85
  have hk := Tryz.underlying3
  obtain ⟨b, hb⟩ : ∃ b, w.heap.size = b := ⟨_, rfl⟩
  have m0 := map_new w
  obtain ⟨w1, r1, m1, e1⟩ := map_put hu hk _ _ _ 0 (.func (.func 48) #[] #[]) m0 (by simp)
  obtain ⟨w2, r2, m2, e2⟩ := map_put hu hk _ _ _ 1 (.func (.func 49) #[] #[]) m1 (by simp)
  obtain ⟨w3, r3, m3, e3⟩ := map_put hu hk _ _ _ 2 (.func (.func 50) #[] #[]) m2 (by simp)
  have z1 : w1.heap.size = w.heap.size + 1 := by rw [e1]; simp [World.putObj]
  have z2 : w2.heap.size = w.heap.size + 1 := by rw [e2]; simpa [World.putObj] using z1
  have hB1 : Below w.heap.size w w1 := by rw [e1]; exact below_putObj ((Below.refl _ w).alloc (Nat.le_refl _) _) (by simp) (Nat.le_refl _) _
  have hB2 : Below w.heap.size w w2 := by rw [e2]; exact below_putObj hB1 (by omega) (Nat.le_refl _) _
  have hB3 : Below w.heap.size w w3 := by rw [e3]; exact below_putObj hB2 (by omega) (Nat.le_refl _) _
  simp only [List.nil_append, List.cons_append] at m3
  have HG := hide (fun W k v (h : MapB W w.heap.size [(0, .func (.func 48) #[] #[]), (1, .func (.func 49) #[] #[]), (2, .func (.func 50) #[] #[])]) hm => map_get hu hk W w.heap.size _ k v false h hm (by decide))
  have g0 := unhide HG w3 0 (.func (.func 48) #[] #[]) m3 (by simp)
  have HM := hide m3
  have HB3 := hide hB3
  have HO := hide hO
  have HS := hide hs
  have HSm := hide (by_small s)
  clear e1 e2 e3 z1 z2 hB1 hB2 hB3 m0 m1 m2 m3 hu hk hs hO hb b
  go_enter Tryz.func33, Tryz.ntmps33
  go_wp2_with fail
  refine (implStorePut_any s w3 (unhide HS)).mono ?_
  rintro e x1 ⟨rfl, b1⟩
  have hM1 := (unhide HM).later b1
  have hB1 := bnext (unhide HB3) b1
  have eS : (⟨(storeL s.data.toList).toArray⟩ : ByteArray) = bestK s 1 := rfl
  rw [eS]
  clear b1 HM HB3 r1 r2 r3 g0 hmm eS
  go_wp2_with fail
  go_loopw [4, 5, 6] (fun v i _ wr => ∃ k : Nat, 1 ≤ k ∧ k ≤ 3 ∧ i = .int .i64 k ∧ v = .string (bestK s k) ∧ MapB wr w.heap.size [(0, .func (.func 48) #[] #[]), (1, .func (.func 49) #[] #[]), (2, .func (.func 50) #[] #[])] ∧ Below w.heap.size w wr) (fun _ i _ _ => 3 - (intOf i).toNat)
  case atStart => exact ⟨1, by omega, by omega, rfl, rfl, hM1, hB1⟩
  case round =>
    obtain ⟨k, hk1, hk3, rfl, rfl, hM, hbel⟩ := hrel
    clear hM1 hB1
    rcases (show k = 1 ∨ k = 2 ∨ k = 3 by omega) with hk | hk | hk
    · have hkI : (k : Int) = 1 := by omega
      have hle : (k : Int) ≤ 2 := by omega
      have g1 : (Instr.lookup 85 (.map (some w.heap.size)) (.int .i64 (k : Int)) false).run Tryz.prog wr = .ok (.func (.func 49) #[] #[]) wr := by rw [hkI]; exact unhide HG wr 1 (.func (.func 49) #[] #[]) hM (by simp)
      have HC := hide (implFixedPut_any s wr (unhide HS))
      have eF : (⟨(fixedL s).toArray⟩ : ByteArray) = byF s := rfl
      rw [eF] at HC
      have hb1 : bestK s k = byS s := by rw [hk]; rfl
      have hb2 : Hid (bestK s (k + 1) = shortB (byS s) (byF s)) := by show _ = _; rw [hk]; rfl
      obtain ⟨q1, q2, q3⟩ := unhide HSm
      rw [hb1]
      have Hk := hide hk
      have HMB := hide (And.intro hM hbel)
      clear hM hbel hk hk1 hk3 hb1 eF hkI
      generalize byF s = F at *
      generalize byS s = A at *
      go_wp2_with fail
      refine (unhide HC).mono ?_
      rintro e x2 ⟨rfl, b2⟩
      have HY := hide (And.intro ((unhide HMB).1.later b2) (bnext (unhide HMB).2 b2))
      clear b2 HMB HC
      by_cases hlt : F.size < A.size
      · have hltI : (F.size : Int) < (A.size : Int) := by omega
        have HE := hide (shortB_yes hlt)
        go_wp2
        go_roundw
        case rel => exact ⟨k + 1, by omega, by have := unhide Hk; omega, by go_num, by rw [unhide hb2, unhide HE], (unhide HY).1, (unhide HY).2⟩
        case measure => have := unhide Hk; simp [intOf]; omega
      · have hltI : ¬ (F.size : Int) < (A.size : Int) := by omega
        have HE := hide (shortB_no hlt)
        go_wp2
        go_roundw
        case rel => exact ⟨k + 1, by omega, by have := unhide Hk; omega, by go_num, by rw [unhide hb2, unhide HE], (unhide HY).1, (unhide HY).2⟩
        case measure => have := unhide Hk; simp [intOf]; omega
    · have hkI : (k : Int) = 2 := by omega
      have hle : (k : Int) ≤ 2 := by omega
      have g1 : (Instr.lookup 85 (.map (some w.heap.size)) (.int .i64 (k : Int)) false).run Tryz.prog wr = .ok (.func (.func 50) #[] #[]) wr := by rw [hkI]; exact unhide HG wr 2 (.func (.func 50) #[] #[]) hM (by simp)
      have HC := hide (implOwnPut_any s wr (unhide HS) ((unhide HO).later hbel))
      have eF : (⟨(ownedL s).toArray⟩ : ByteArray) = byO s := rfl
      rw [eF] at HC
      have hb1 : bestK s k = shortB (byS s) (byF s) := by rw [hk]; rfl
      have hb2 : Hid (bestK s (k + 1) = shortB (shortB (byS s) (byF s)) (byO s)) := by show _ = _; rw [hk]; rfl
      obtain ⟨q1, q2, q3⟩ := unhide HSm
      have q4 : ((shortB (byS s) (byF s)).size : Int) ≤ 100000 := by unfold shortB; split <;> omega
      rw [hb1]
      have Hk := hide hk
      have HMB := hide (And.intro hM hbel)
      clear hM hbel hk hk1 hk3 hb1 eF q1 q2 hkI
      generalize byO s = F at *
      generalize shortB (byS s) (byF s) = A at *
      go_wp2_with fail
      refine (unhide HC).mono ?_
      rintro e x2 ⟨rfl, b2⟩
      have HY := hide (And.intro ((unhide HMB).1.later b2) (bnext (unhide HMB).2 b2))
      clear b2 HMB HC
      by_cases hlt : F.size < A.size
      · have hltI : (F.size : Int) < (A.size : Int) := by omega
        have HE := hide (shortB_yes hlt)
        go_wp2
        go_roundw
        case rel => exact ⟨k + 1, by omega, by have := unhide Hk; omega, by go_num, by rw [unhide hb2, unhide HE], (unhide HY).1, (unhide HY).2⟩
        case measure => have := unhide Hk; simp [intOf]; omega
      · have hltI : ¬ (F.size : Int) < (A.size : Int) := by omega
        have HE := hide (shortB_no hlt)
        go_wp2
        go_roundw
        case rel => exact ⟨k + 1, by omega, by have := unhide Hk; omega, by go_num, by rw [unhide hb2, unhide HE], (unhide HY).1, (unhide HY).2⟩
        case measure => have := unhide Hk; simp [intOf]; omega
    · have hle : ¬ (k : Int) ≤ 2 := by omega
      have hb1 : Hid (bestK s k = flateB s) := by show _ = _; rw [hk]; rfl
      have HB := hide hbel
      clear hM hbel hk hk1 hk3
      generalize bestK s k = A at *
      go_wp2
      go_ret
      exact ⟨by rw [← unhide hb1]; rfl, unhide HB⟩
set_option maxRecDepth 100000 in
set_option maxHeartbeats 6400000 in
theorem specFlate_any (s : ByteArray) (w : World) (hs : s.size ≤ 300) :
    Calls Tryz.prog 58 #[.string s] w fun e w' => e = .returned (.string (flateB s)) ∧ Below w.heap.size w w' := by
  have hI : ¬ (300 : Int) < (s.size : Int) := by omega
  have hsI : (s.size : Int) ≤ 300 := by omega
  have HS1 := hide (fun W => l5Store_any s W hs)
  have HS2 := hide (fun W => l5Known_any s W hs)
  have HS3 := hide (fun W => l5Own_any s W hs)
  have e1 : (⟨(leS 5 (headV s.size) ++ s.data.toList).toArray⟩ : ByteArray) = bestK s 1 := by
    show _ = byS s
    unfold byS storeL
    rw [if_pos (by rw [str_len]; exact hs), str_len]
  have e2 : (⟨(knownL s).toArray⟩ : ByteArray) = byF s := by unfold byF fixedL; rw [if_pos hs]
  have e3 : (⟨(ownT s).toArray⟩ : ByteArray) = byO s := by unfold byO ownedL; rw [if_pos hs]
  rw [e1] at HS1
  rw [e2] at HS2
  rw [e3] at HS3
  have HSm := hide (by_small s)
  clear hs e1 e2 e3
  go_enter Tryz.func58, Tryz.ntmps58
  go_wp2_with fail
  refine (unhide HS1 _).mono ?_
  rintro e x1 ⟨rfl, b1⟩
  have B1 := hide b1
  clear b1
  go_wp2_with fail
  refine (unhide HS2 _).mono ?_
  rintro e x2 ⟨rfl, b2⟩
  have B2 := hide (bnext (unhide B1) b2)
  clear b2 B1
  go_wp2_with fail
  refine (unhide HS3 _).mono ?_
  rintro e x3 ⟨rfl, b3⟩
  have hB3 := bnext (unhide B2) b3
  have hB4 : Below w.heap.size w (x3.alloc (.cells #[.string (byF s), .string (byO s)] 9)) := hB3.alloc hB3.size _
  have c0 : (x3.alloc (.cells #[.string (byF s), .string (byO s)] 9)).cell? ⟨x3.heap.size, 0, none⟩ = some (.string (byF s)) := by simp
  have c1 : (x3.alloc (.cells #[.string (byF s), .string (byO s)] 9)).cell? ⟨x3.heap.size, 1, none⟩ = some (.string (byO s)) := by simp
  have HB4 := hide hB4
  clear b3 hB3 hB4 B2 HS1 HS2 HS3
  go_wp2_with fail
  generalize x3.alloc (.cells #[.string (byF s), .string (byO s)] 9) = x4 at *
  generalize x3.heap.size = g at *
  go_loopw [3, 5] (fun v i wr => ∃ k : Nat, k ≤ 2 ∧ i = .int .i64 k ∧ v = .string (bestK s (k + 1)) ∧ wr = x4) (fun _ i _ => 2 - (intOf i).toNat)
  case atStart => exact ⟨0, by omega, rfl, rfl, rfl⟩
  case round =>
    obtain ⟨k, hk2, rfl, rfl, hwr⟩ := hrel
    rw [hwr]
    clear hwr
    obtain ⟨q1, q2, q3⟩ := unhide HSm
    rcases (show k = 0 ∨ k = 1 ∨ k = 2 by omega) with hk | hk | hk
    · have hkI : (k : Int) < 2 := by omega
      have c : x4.cell? ⟨g, k, none⟩ = some (.string (byF s)) := by rw [hk]; exact c0
      have hb1 : bestK s (k + 1) = byS s := by rw [hk]; rfl
      have hb2 : Hid (bestK s (k + 1 + 1) = shortB (byS s) (byF s)) := by show _ = _; rw [hk]; rfl
      rw [hb1]
      have Hk := hide hk
      clear hk hb1 c0 c1 hk2
      generalize byF s = F at *
      generalize byS s = A at *
      by_cases hlt : F.size < A.size
      · have hltI : (F.size : Int) < (A.size : Int) := by omega
        have HE := hide (shortB_yes hlt)
        go_wp2
        go_roundw
        case rel => exact ⟨k + 1, by have := unhide Hk; omega, by go_num, by rw [unhide hb2, unhide HE], by first | rfl | trivial⟩
        case measure => have := unhide Hk; simp [intOf]; omega
      · have hltI : ¬ (F.size : Int) < (A.size : Int) := by omega
        have HE := hide (shortB_no hlt)
        go_wp2
        go_roundw
        case rel => exact ⟨k + 1, by have := unhide Hk; omega, by go_num, by rw [unhide hb2, unhide HE], by first | rfl | trivial⟩
        case measure => have := unhide Hk; simp [intOf]; omega
    · have hkI : (k : Int) < 2 := by omega
      have c : x4.cell? ⟨g, k, none⟩ = some (.string (byO s)) := by rw [hk]; exact c1
      have hb1 : bestK s (k + 1) = shortB (byS s) (byF s) := by rw [hk]; rfl
      have hb2 : Hid (bestK s (k + 1 + 1) = shortB (shortB (byS s) (byF s)) (byO s)) := by show _ = _; rw [hk]; rfl
      have q4 : ((shortB (byS s) (byF s)).size : Int) ≤ 100000 := by unfold shortB; split <;> omega
      rw [hb1]
      have Hk := hide hk
      clear hk hb1 c0 c1 hk2 q1 q2
      generalize byO s = F at *
      generalize shortB (byS s) (byF s) = A at *
      by_cases hlt : F.size < A.size
      · have hltI : (F.size : Int) < (A.size : Int) := by omega
        have HE := hide (shortB_yes hlt)
        go_wp2
        go_roundw
        case rel => exact ⟨k + 1, by have := unhide Hk; omega, by go_num, by rw [unhide hb2, unhide HE], by first | rfl | trivial⟩
        case measure => have := unhide Hk; simp [intOf]; omega
      · have hltI : ¬ (F.size : Int) < (A.size : Int) := by omega
        have HE := hide (shortB_no hlt)
        go_wp2
        go_roundw
        case rel => exact ⟨k + 1, by have := unhide Hk; omega, by go_num, by rw [unhide hb2, unhide HE], by first | rfl | trivial⟩
        case measure => have := unhide Hk; simp [intOf]; omega
    · have hkI : ¬ (k : Int) < 2 := by omega
      have hb1 : Hid (bestK s (k + 1) = flateB s) := by show _ = _; rw [hk]; rfl
      clear hk c0 c1 hk2
      generalize bestK s (k + 1) = A at *
      go_wp2
      go_ret
      exact ⟨by rw [← unhide hb1]; rfl, unhide HB4⟩
theorem specFlatePut_any (s : ByteArray) (w : World) (hs : s.size ≤ 1048576) :
    Calls Tryz.prog 58 #[.string s] w fun e w' => e = .returned (.string (flateB s)) ∧ Below w.heap.size w w' := by
  have hsI : (s.size : Int) ≤ 1048576 := by omega
  by_cases h : s.size ≤ 300
  · exact specFlate_any s w h
  · have hI : (300 : Int) < (s.size : Int) := by omega
    have HF := hide (flateB_long s h)
    clear h
    go_enter Tryz.func58, Tryz.ntmps58
    go_wp2
    go_ret
    exact ⟨by rw [unhide HF]; rfl, Below.refl _ _⟩
end Go.Proofs.YtgpghapnmalipaaGreatDoor
namespace Go.Proofs.YtgpghapnmalipaaGreatDoor
open Go.RowKit Corb
set_option maxRecDepth 100000
def howN (s : ByteArray) : Nat := if (flateB s).size < s.size then 8 else 0
def bodyB (s : ByteArray) : ByteArray := if (flateB s).size < s.size then flateB s else s
theorem flateB_small (s : ByteArray) : ((flateB s).size : Int) ≤ 100000 := by
  obtain ⟨h1, h2, h3⟩ := by_small s
  have key : ∀ a b : ByteArray, (a.size : Int) ≤ 100000 → (b.size : Int) ≤ 100000 → ((shortB a b).size : Int) ≤ 100000 := fun a b ha hb => by
    by_cases h : b.size < a.size
    · rw [shortB_yes h]; exact hb
    · rw [shortB_no h]; exact ha
  unfold flateB
  exact key _ _ (key _ _ h1 h2) h3
theorem l6How_any (s : ByteArray) (w : World) (hs : s.size ≤ 1048576) :
    Calls Tryz.prog 41 #[.string s] w fun e w' => e = .returned (.tuple #[.int .i64 (howN s : Nat), .string (bodyB s)]) ∧ Below w.heap.size w w' := by
  have HC := hide (specFlatePut_any s w hs)
  have hz := flateB_small s
  have hsI : (s.size : Int) ≤ 1048576 := by omega
  unfold howN bodyB
  generalize flateB s = x at *
  clear hs
  by_cases h : x.size < s.size
  · have hI : (x.size : Int) < (s.size : Int) := by omega
    rw [if_pos h, if_pos h]
    clear h
    go_enter Tryz.func41, Tryz.ntmps41
    go_wp2_with fail
    refine (unhide HC).mono ?_
    rintro e w1 ⟨rfl, hb1⟩
    have HB := hide hb1
    clear hb1 HC
    go_wp2
    go_ret2
    exact ⟨rfl, unhide HB⟩
  · have hI : ¬ (x.size : Int) < (s.size : Int) := by omega
    rw [if_neg h, if_neg h]
    clear h
    go_enter Tryz.func41, Tryz.ntmps41
    go_wp2_with fail
    refine (unhide HC).mono ?_
    rintro e w1 ⟨rfl, hb1⟩
    have HB := hide hb1
    clear hb1 HC
    go_wp2
    go_ret2
    exact ⟨rfl, unhide HB⟩
end Go.Proofs.YtgpghapnmalipaaGreatDoor
namespace Go.Proofs.YtgpghapnmalipaaGreatDoor
open Go.RowKit Corb
set_option maxRecDepth 100000
def EightB (W : World) (g : Nat) (n : ByteArray) (y mo d h mi s : Int) (t : ByteArray) : Prop := W.cell? ⟨g, 0, none⟩ = some (.string n) ∧ W.cell? ⟨g, 1, none⟩ = some (.int .i64 y) ∧ W.cell? ⟨g, 2, none⟩ = some (.int .i64 mo) ∧ W.cell? ⟨g, 3, none⟩ = some (.int .i64 d) ∧ W.cell? ⟨g, 4, none⟩ = some (.int .i64 h) ∧ W.cell? ⟨g, 5, none⟩ = some (.int .i64 mi) ∧ W.cell? ⟨g, 6, none⟩ = some (.int .i64 s) ∧ W.cell? ⟨g, 7, none⟩ = some (.string t)
def EigS (w : World) (n : ByteArray) (y mo d h mi s : Int) (t : ByteArray) (W : World) : Prop := Below w.heap.size w W ∧ w.heap.size < W.heap.size ∧ EightB W w.heap.size n y mo d h mi s t
theorem EigS.later {w W W' : World} {n t : ByteArray} {y mo d h mi s : Int} (k : EigS w n y mo d h mi s t W) (hb : Below W.heap.size W W') : EigS w n y mo d h mi s t W' := by
  have hc : ∀ j, W'.cell? ⟨w.heap.size, j, none⟩ = W.cell? ⟨w.heap.size, j, none⟩ := fun j => hb.cell (p := ⟨w.heap.size, j, none⟩) k.2.1
  obtain ⟨b1, b2, e0, e1, e2, e3, e4, e5, e6, e7⟩ := k
  exact ⟨b1.trans (hb.mono (Nat.le_of_lt b2)), Nat.lt_of_lt_of_le b2 hb.size, (hc 0).trans e0, (hc 1).trans e1, (hc 2).trans e2, (hc 3).trans e3, (hc 4).trans e4, (hc 5).trans e5, (hc 6).trans e6, (hc 7).trans e7⟩
theorem toldB_is (how st crc pk lg n : Nat) : toldB how st crc pk lg n = strL (leS 2 20) ++ strL (leS 2 0) ++ strL (leS 2 how) ++ strL (leS 4 st) ++ strL (leS 4 crc) ++ strL (leS 4 pk) ++ strL (leS 4 lg) ++ strL (leS 2 n) ++ strL (leS 2 0) := by
  have hx : ∀ a b : ByteArray, a.data.toList = b.data.toList → a = b := fun a b h => by
    cases a; cases b
    simp only [ByteArray.mk.injEq]
    exact Array.toList_inj.1 h
  apply hx
  unfold toldB strL
  simp
set_option maxHeartbeats 6400000 in
theorem l6Fields_any (n t : ByteArray) (y mo d h mi s : Int) (N : Nat) (w : World) (k : (0 ≤ y ∧ y ≤ 100000) ∧ (0 ≤ mo ∧ mo ≤ 100) ∧ (0 ≤ d ∧ d ≤ 100) ∧ (0 ≤ h ∧ h ≤ 100) ∧ (0 ≤ mi ∧ mi ≤ 100) ∧ -100 ≤ s ∧ s ≤ 100)
    (hN : (((((y - 1980) * 16 + mo) * 32 + d) * 32 + h) * 64 + mi) * 32 + Int.tdiv s 2 = (N : Int)) (hN2 : N < 4294967296) (hn : n.size < 65536) (ht : t.size ≤ 1048576) :
    Calls Tryz.prog 40 #[.agg #[.string n, .int .i64 y, .int .i64 mo, .int .i64 d, .int .i64 h, .int .i64 mi, .int .i64 s, .string t]] w fun e w' => e = .returned (.string (toldB (howN t) N (crcMore 0 t.data.toList) (bodyB t).size t.size n.size)) ∧ Below w.heap.size w w' := by
  have hmix : Tryz.prog.follows .mixedOrders = true := by kernel_rfl
  have hcr : crcMore 0 t.data.toList < 4294967296 := crcMore_lt _ _ (by omega)
  have hfz := flateB_small t
  have hbz : (bodyB t).size ≤ 1048576 := by unfold bodyB; split <;> omega
  have hwz : howN t ≤ 8 := by unfold howN; split <;> omega
  have C20 : Hid (∀ W, Calls Tryz.prog 39 #[.int .i64 ((20 : Nat) : Int), .int .i64 2] W fun e w' => e = .returned (.string (strL (leS 2 (20)))) ∧ Below W.heap.size W w') := fun W => l6Bytes_any (20) 2 W (by omega) (by omega)
  have C0 : Hid (∀ W, Calls Tryz.prog 39 #[.int .i64 ((0 : Nat) : Int), .int .i64 2] W fun e w' => e = .returned (.string (strL (leS 2 (0)))) ∧ Below W.heap.size W w') := fun W => l6Bytes_any (0) 2 W (by omega) (by omega)
  have CH : Hid (∀ W, Calls Tryz.prog 39 #[.int .i64 ((howN t : Nat) : Int), .int .i64 2] W fun e w' => e = .returned (.string (strL (leS 2 (howN t)))) ∧ Below W.heap.size W w') := fun W => l6Bytes_any (howN t) 2 W (by omega) (by omega)
  have CN : Hid (∀ W, Calls Tryz.prog 39 #[.int .i64 ((N : Nat) : Int), .int .i64 4] W fun e w' => e = .returned (.string (strL (leS 4 (N)))) ∧ Below W.heap.size W w') := fun W => l6Bytes_any (N) 4 W (by omega) (by omega)
  have CK : Hid (∀ W, Calls Tryz.prog 39 #[.int .i64 ((crcMore 0 t.data.toList : Nat) : Int), .int .i64 4] W fun e w' => e = .returned (.string (strL (leS 4 (crcMore 0 t.data.toList)))) ∧ Below W.heap.size W w') := fun W => l6Bytes_any (crcMore 0 t.data.toList) 4 W (by omega) (by omega)
  have CB : Hid (∀ W, Calls Tryz.prog 39 #[.int .i64 (((bodyB t).size : Nat) : Int), .int .i64 4] W fun e w' => e = .returned (.string (strL (leS 4 ((bodyB t).size)))) ∧ Below W.heap.size W w') := fun W => l6Bytes_any ((bodyB t).size) 4 W (by omega) (by omega)
  have CT : Hid (∀ W, Calls Tryz.prog 39 #[.int .i64 ((t.size : Nat) : Int), .int .i64 4] W fun e w' => e = .returned (.string (strL (leS 4 (t.size)))) ∧ Below W.heap.size W w') := fun W => l6Bytes_any (t.size) 4 W (by omega) (by omega)
  have CM : Hid (∀ W, Calls Tryz.prog 39 #[.int .i64 ((n.size : Nat) : Int), .int .i64 2] W fun e w' => e = .returned (.string (strL (leS 2 (n.size)))) ∧ Below W.heap.size W w') := fun W => l6Bytes_any (n.size) 2 W (by omega) (by omega)
  have CP : Hid (∀ W, Calls Tryz.prog 56 #[.agg #[.int .i64 y, .int .i64 mo, .int .i64 d, .int .i64 h, .int .i64 mi, .int .i64 s]] W fun e w' => e = .returned (.int .i64 ((N : Nat) : Int)) ∧ Below W.heap.size W w') := fun W => by
    have := l6Put_any y mo d h mi s W k
    rw [hN] at this
    exact this
  have CC : Hid (∀ W, Calls Tryz.prog 57 #[.string t] W fun e w' => e = .returned (.int .i64 ((crcMore 0 t.data.toList : Nat) : Int)) ∧ Below W.heap.size W w') := fun W => (specCrc_any t W (by unfold maxLen; omega)).mono fun e w' ⟨h1, h2⟩ => ⟨h1, by rw [h2]; exact Below.refl _ _⟩
  have CHow := hide (fun W => l6How_any t W ht)
  have HE := hide (toldB_is (howN t) N (crcMore 0 t.data.toList) (bodyB t).size t.size n.size)
  have zz : ∀ many V, many ≤ 4 → ((strL (leS many V)).size : Int) ≤ 4 := fun many V hm => by rw [strL_size, leS_len]; omega
  have z1 := zz 2 20 (by omega)
  have z2 := zz 2 0 (by omega)
  have z3 := zz 2 (howN t) (by omega)
  have z4 := zz 4 N (by omega)
  have z5 := zz 4 (crcMore 0 t.data.toList) (by omega)
  have z6 := zz 4 (bodyB t).size (by omega)
  have z7 := zz 4 t.size (by omega)
  have z8 := zz 2 n.size (by omega)
  generalize strL (leS 2 20) = A20 at *
  generalize strL (leS 2 0) = A0 at *
  generalize strL (leS 2 (howN t)) = AH at *
  generalize strL (leS 4 N) = AN at *
  generalize strL (leS 4 (crcMore 0 t.data.toList)) = AK at *
  generalize strL (leS 4 (bodyB t).size) = AB at *
  generalize strL (leS 4 t.size) = AT at *
  generalize strL (leS 2 n.size) = AM at *
  generalize toldB (howN t) N (crcMore 0 t.data.toList) (bodyB t).size t.size n.size = RES at *
  generalize howN t = hw at *
  generalize bodyB t = bd at *
  generalize crcMore 0 t.data.toList = cr at *
  have htI : (t.size : Int) ≤ 1048576 := by omega
  have hnI : (n.size : Int) < 65536 := by omega
  have hbI : (bd.size : Int) ≤ 1048576 := by omega
  have T0' : Hid (EigS w n y mo d h mi s t (w.alloc (.cells #[.string n, .int .i64 y, .int .i64 mo, .int .i64 d, .int .i64 h, .int .i64 mi, .int .i64 s, .string t] 42))) := ⟨(Below.refl _ _).alloc (Nat.le_refl _) _, by simp, by simp, by simp, by simp, by simp, by simp, by simp, by simp, by simp⟩
  have hlt0 : w.heap.size < (w.alloc (.cells #[.string n, .int .i64 y, .int .i64 mo, .int .i64 d, .int .i64 h, .int .i64 mi, .int .i64 s, .string t] 42)).heap.size := (unhide T0').2.1
  clear k hN hN2 hn ht hcr hfz hbz hwz zz hlt0
  go_enter Tryz.func40, Tryz.ntmps40
  go_wp2_with fail
  obtain ⟨W1, hW1⟩ : ∃ x, w.alloc (.cells #[.string n, .int .i64 y, .int .i64 mo, .int .i64 d, .int .i64 h, .int .i64 mi, .int .i64 s, .string t] 42) = x := ⟨_, rfl⟩
  rw [hW1] at T0'
  rw [hW1]
  have T1 := T0'
  clear T0' hW1
  refine (unhide CHow W1).mono ?_
  rintro e W2 ⟨rfl, Bd⟩
  have T2 := hide ((unhide T1).later Bd)
  clear Bd T1 CHow
  go_wp2_with fail
  refine wp_region_held_drew (S := fun W => EightB W w.heap.size n y mo d h mi s t) hmix (unhide T2).2.2 (fun hS => ?_)
  refine wpAnyH_take (i := 3) (v := .int .i64 (hw : Nat)) rfl (by kernel_rfl) (by kernel_rfl) (by kernel_rfl) (fun _ _ _ h => h) (Or.inl ⟨by rfl, fun W hSw => by obtain ⟨s0, s1, s2, s3, s4, s5, s6, s7⟩ := hSw; go_simp⟩) hS ?_
  refine wpAnyH_take (i := 6) (v := .pointer (some ⟨w.heap.size, 1, none⟩)) rfl (by kernel_rfl) (by kernel_rfl) (by kernel_rfl) (fun _ _ _ h => h) (Or.inl ⟨by rfl, fun W hSw => by obtain ⟨s0, s1, s2, s3, s4, s5, s6, s7⟩ := hSw; go_simp⟩) hS ?_
  refine wpAnyH_take (i := 7) (v := .agg #[.int .i64 y, .int .i64 mo, .int .i64 d, .int .i64 h, .int .i64 mi, .int .i64 s]) rfl (by kernel_rfl) (by kernel_rfl) (by kernel_rfl) (fun _ _ _ h => h) (Or.inl ⟨by rfl, fun W hSw => by obtain ⟨s0, s1, s2, s3, s4, s5, s6, s7⟩ := hSw; go_simp⟩) hS ?_
  have T3 : Hid (EigS w n y mo d h mi s t W2.drew) := ⟨(unhide T2).1.drew, (unhide T2).2.1, (unhide T2).2.2⟩
  generalize W2.drew = W3 at *
  refine wpAnyH_ready (rs := [0]) (by kernel_rfl) (by simp) ?_
  refine AllReadyH.cons rfl (fun K hK => ?_) AllReadyH.nil
  go_simp
  go_at_call 39
  refine (unhide C20 W3).mono ?_
  rintro e W4 ⟨rfl, Bd⟩
  have T4 := hide ((unhide T3).later Bd)
  refine Shut.out hK _ _ (unhide T4).2.2 (fun hS => ?_)
  clear hK K Bd
  refine wpAnyH_ready (rs := [1]) (by kernel_rfl) (by simp) ?_
  refine AllReadyH.cons rfl (fun K hK => ?_) AllReadyH.nil
  go_simp
  go_at_call 39
  refine (unhide C0 W4).mono ?_
  rintro e W5 ⟨rfl, Bd⟩
  have T5 := hide ((unhide T4).later Bd)
  refine Shut.out hK _ _ (unhide T5).2.2 (fun hS => ?_)
  clear hK K Bd
  refine wpAnyH_take (i := 2) (v := .string (A20 ++ A0)) rfl (by kernel_rfl) (by kernel_rfl) (by kernel_rfl) (fun _ _ _ h => h) (Or.inl ⟨by rfl, fun W hSw => by obtain ⟨s0, s1, s2, s3, s4, s5, s6, s7⟩ := hSw; go_simp <;> omega⟩) hS ?_
  refine wpAnyH_ready (rs := [4]) (by kernel_rfl) (by simp) ?_
  refine AllReadyH.cons rfl (fun K hK => ?_) AllReadyH.nil
  go_simp
  go_at_call 39
  refine (unhide CH W5).mono ?_
  rintro e W6 ⟨rfl, Bd⟩
  have T6 := hide ((unhide T5).later Bd)
  refine Shut.out hK _ _ (unhide T6).2.2 (fun hS => ?_)
  clear hK K Bd
  refine wpAnyH_take (i := 5) (v := .string (A20 ++ A0 ++ AH)) rfl (by kernel_rfl) (by kernel_rfl) (by kernel_rfl) (fun _ _ _ h => h) (Or.inl ⟨by rfl, fun W hSw => by obtain ⟨s0, s1, s2, s3, s4, s5, s6, s7⟩ := hSw; go_simp <;> omega⟩) hS ?_
  refine wpAnyH_ready (rs := [8]) (by kernel_rfl) (by simp) ?_
  refine AllReadyH.cons rfl (fun K hK => ?_) AllReadyH.nil
  go_simp
  go_at_call 56
  refine (unhide CP W6).mono ?_
  rintro e W7 ⟨rfl, Bd⟩
  have T7 := hide ((unhide T6).later Bd)
  refine Shut.out hK _ _ (unhide T7).2.2 (fun hS => ?_)
  clear hK K Bd
  refine wpAnyH_ready (rs := [9]) (by kernel_rfl) (by simp) ?_
  refine AllReadyH.cons rfl (fun K hK => ?_) AllReadyH.nil
  go_simp
  go_at_call 39
  refine (unhide CN W7).mono ?_
  rintro e W8 ⟨rfl, Bd⟩
  have T8 := hide ((unhide T7).later Bd)
  refine Shut.out hK _ _ (unhide T8).2.2 (fun hS => ?_)
  clear hK K Bd
  refine wpAnyH_take (i := 10) (v := .string (A20 ++ A0 ++ AH ++ AN)) rfl (by kernel_rfl) (by kernel_rfl) (by kernel_rfl) (fun _ _ _ h => h) (Or.inl ⟨by rfl, fun W hSw => by obtain ⟨s0, s1, s2, s3, s4, s5, s6, s7⟩ := hSw; go_simp <;> omega⟩) hS ?_
  refine wpAnyH_ready (rs := [11]) (by kernel_rfl) (by simp) ?_
  refine AllReadyH.cons rfl (fun K hK => ?_) AllReadyH.nil
  go_simp
  refine Shut.out hK _ _ (unhide T8).2.2 (fun hS => ?_)
  clear hK K
  refine wpAnyH_done (by kernel_rfl) ?_ _
  clear hS
  obtain ⟨B1, hB1⟩ : ∃ x, A20 ++ A0 ++ AH ++ AN = x := ⟨_, rfl⟩
  have zB1 : (B1.size : Int) ≤ 1000 := by rw [← hB1]; simp only [ByteArray.size_append]; omega
  rw [hB1]
  go_wp2_with fail
  refine wp_region_held_drew (S := fun W => EightB W w.heap.size n y mo d h mi s t) hmix (unhide T8).2.2 (fun hS => ?_)
  refine wpAnyH_take (i := 0) (v := .string B1) rfl (by kernel_rfl) (by kernel_rfl) (by kernel_rfl) (fun _ _ _ h => h) (Or.inl ⟨by rfl, fun W hSw => by obtain ⟨s0, s1, s2, s3, s4, s5, s6, s7⟩ := hSw; go_simp⟩) hS ?_
  refine wpAnyH_take (i := 1) (v := .pointer (some ⟨w.heap.size, 7, none⟩)) rfl (by kernel_rfl) (by kernel_rfl) (by kernel_rfl) (fun _ _ _ h => h) (Or.inl ⟨by rfl, fun W hSw => by obtain ⟨s0, s1, s2, s3, s4, s5, s6, s7⟩ := hSw; go_simp⟩) hS ?_
  refine wpAnyH_take (i := 2) (v := .string t) rfl (by kernel_rfl) (by kernel_rfl) (by kernel_rfl) (fun _ _ _ h => h) (Or.inl ⟨by rfl, fun W hSw => by obtain ⟨s0, s1, s2, s3, s4, s5, s6, s7⟩ := hSw; go_simp⟩) hS ?_
  refine wpAnyH_take (i := 6) (v := .string bd) rfl (by kernel_rfl) (by kernel_rfl) (by kernel_rfl) (fun _ _ _ h => h) (Or.inl ⟨by rfl, fun W hSw => by obtain ⟨s0, s1, s2, s3, s4, s5, s6, s7⟩ := hSw; go_simp⟩) hS ?_
  refine wpAnyH_take (i := 7) (v := .int .i64 (bd.size : Nat)) rfl (by kernel_rfl) (by kernel_rfl) (by kernel_rfl) (fun _ _ _ h => h) (Or.inl ⟨by rfl, fun W hSw => by obtain ⟨s0, s1, s2, s3, s4, s5, s6, s7⟩ := hSw; go_simp⟩) hS ?_
  refine wpAnyH_take (i := 10) (v := .pointer (some ⟨w.heap.size, 7, none⟩)) rfl (by kernel_rfl) (by kernel_rfl) (by kernel_rfl) (fun _ _ _ h => h) (Or.inl ⟨by rfl, fun W hSw => by obtain ⟨s0, s1, s2, s3, s4, s5, s6, s7⟩ := hSw; go_simp⟩) hS ?_
  refine wpAnyH_take (i := 11) (v := .string t) rfl (by kernel_rfl) (by kernel_rfl) (by kernel_rfl) (fun _ _ _ h => h) (Or.inl ⟨by rfl, fun W hSw => by obtain ⟨s0, s1, s2, s3, s4, s5, s6, s7⟩ := hSw; go_simp⟩) hS ?_
  refine wpAnyH_take (i := 12) (v := .int .i64 (t.size : Nat)) rfl (by kernel_rfl) (by kernel_rfl) (by kernel_rfl) (fun _ _ _ h => h) (Or.inl ⟨by rfl, fun W hSw => by obtain ⟨s0, s1, s2, s3, s4, s5, s6, s7⟩ := hSw; go_simp⟩) hS ?_
  have T9 : Hid (EigS w n y mo d h mi s t W8.drew) := ⟨(unhide T8).1.drew, (unhide T8).2.1, (unhide T8).2.2⟩
  generalize W8.drew = W9 at *
  refine wpAnyH_ready (rs := [3]) (by kernel_rfl) (by simp) ?_
  refine AllReadyH.cons rfl (fun K hK => ?_) AllReadyH.nil
  go_simp
  go_at_call 57
  refine (unhide CC W9).mono ?_
  rintro e W10 ⟨rfl, Bd⟩
  have T10 := hide ((unhide T9).later Bd)
  refine Shut.out hK _ _ (unhide T10).2.2 (fun hS => ?_)
  clear hK K Bd
  refine wpAnyH_ready (rs := [4]) (by kernel_rfl) (by simp) ?_
  refine AllReadyH.cons rfl (fun K hK => ?_) AllReadyH.nil
  go_simp
  go_at_call 39
  refine (unhide CK W10).mono ?_
  rintro e W11 ⟨rfl, Bd⟩
  have T11 := hide ((unhide T10).later Bd)
  refine Shut.out hK _ _ (unhide T11).2.2 (fun hS => ?_)
  clear hK K Bd
  refine wpAnyH_take (i := 5) (v := .string (B1 ++ AK)) rfl (by kernel_rfl) (by kernel_rfl) (by kernel_rfl) (fun _ _ _ h => h) (Or.inl ⟨by rfl, fun W hSw => by obtain ⟨s0, s1, s2, s3, s4, s5, s6, s7⟩ := hSw; go_simp <;> omega⟩) hS ?_
  refine wpAnyH_ready (rs := [8]) (by kernel_rfl) (by simp) ?_
  refine AllReadyH.cons rfl (fun K hK => ?_) AllReadyH.nil
  go_simp
  go_at_call 39
  refine (unhide CB W11).mono ?_
  rintro e W12 ⟨rfl, Bd⟩
  have T12 := hide ((unhide T11).later Bd)
  refine Shut.out hK _ _ (unhide T12).2.2 (fun hS => ?_)
  clear hK K Bd
  refine wpAnyH_take (i := 9) (v := .string (B1 ++ AK ++ AB)) rfl (by kernel_rfl) (by kernel_rfl) (by kernel_rfl) (fun _ _ _ h => h) (Or.inl ⟨by rfl, fun W hSw => by obtain ⟨s0, s1, s2, s3, s4, s5, s6, s7⟩ := hSw; go_simp <;> omega⟩) hS ?_
  refine wpAnyH_ready (rs := [13]) (by kernel_rfl) (by simp) ?_
  refine AllReadyH.cons rfl (fun K hK => ?_) AllReadyH.nil
  go_simp
  go_at_call 39
  refine (unhide CT W12).mono ?_
  rintro e W13 ⟨rfl, Bd⟩
  have T13 := hide ((unhide T12).later Bd)
  refine Shut.out hK _ _ (unhide T13).2.2 (fun hS => ?_)
  clear hK K Bd
  refine wpAnyH_take (i := 14) (v := .string (B1 ++ AK ++ AB ++ AT)) rfl (by kernel_rfl) (by kernel_rfl) (by kernel_rfl) (fun _ _ _ h => h) (Or.inl ⟨by rfl, fun W hSw => by obtain ⟨s0, s1, s2, s3, s4, s5, s6, s7⟩ := hSw; go_simp <;> omega⟩) hS ?_
  refine wpAnyH_ready (rs := [15]) (by kernel_rfl) (by simp) ?_
  refine AllReadyH.cons rfl (fun K hK => ?_) AllReadyH.nil
  go_simp
  refine Shut.out hK _ _ (unhide T13).2.2 (fun hS => ?_)
  clear hK K
  refine wpAnyH_done (by kernel_rfl) ?_ _
  clear hS
  obtain ⟨B2, hB2⟩ : ∃ x, B1 ++ AK ++ AB ++ AT = x := ⟨_, rfl⟩
  have zB2 : (B2.size : Int) ≤ 2000 := by rw [← hB2]; simp only [ByteArray.size_append]; omega
  rw [hB2]
  obtain ⟨c0, c1, c2, c3, c4, c5, c6, c7⟩ := (unhide T13).2.2
  have hlt := (unhide T13).2.1
  go_wp2_with fail
  refine (unhide CM W13).mono ?_
  rintro e X1 ⟨rfl, Bd⟩
  have TX := hide ((unhide T13).later Bd)
  clear Bd
  go_wp2_with fail
  refine (unhide C0 X1).mono ?_
  rintro e X2 ⟨rfl, Bd⟩
  have TY := hide ((unhide TX).later Bd)
  clear Bd
  go_wp2
  go_ret
  exact ⟨by rw [unhide HE, ← hB2, ← hB1]; rfl, (unhide TY).1⟩
end Go.Proofs.YtgpghapnmalipaaGreatDoor
namespace Go.Proofs.YtgpghapnmalipaaGreatDoor
open Go.RowKit Corb
set_option maxRecDepth 100000
def localB (n t : ByteArray) (N : Nat) : ByteArray := headB (howN t) N (crcMore 0 t.data.toList) (bodyB t).size t.size n ++ bodyB t
theorem mark_is : strL (leS 4 67324752) = (⟨#[80, 75, 3, 4]⟩ : ByteArray) := by decide +kernel
set_option maxHeartbeats 3200000 in
theorem l6Local_any (n t : ByteArray) (y mo d h mi s : Int) (N : Nat) (w : World) (k : (0 ≤ y ∧ y ≤ 100000) ∧ (0 ≤ mo ∧ mo ≤ 100) ∧ (0 ≤ d ∧ d ≤ 100) ∧ (0 ≤ h ∧ h ≤ 100) ∧ (0 ≤ mi ∧ mi ≤ 100) ∧ -100 ≤ s ∧ s ≤ 100)
    (hN : (((((y - 1980) * 16 + mo) * 32 + d) * 32 + h) * 64 + mi) * 32 + Int.tdiv s 2 = (N : Int)) (hN2 : N < 4294967296) (hn : n.size < 65536) (ht : t.size ≤ 1048576) :
    Calls Tryz.prog 26 #[.agg #[.string n, .int .i64 y, .int .i64 mo, .int .i64 d, .int .i64 h, .int .i64 mi, .int .i64 s, .string t]] w fun e w' => e = .returned (.string (localB n t N)) ∧ Below w.heap.size w w' := by
  have hmix : Tryz.prog.follows .mixedOrders = true := by kernel_rfl
  have CF := hide (fun W => l6Fields_any n t y mo d h mi s N W k hN hN2 hn ht)
  have CHow := hide (fun W => l6How_any t W ht)
  have CM : Hid (∀ W, Calls Tryz.prog 39 #[.int .i64 67324752, .int .i64 4] W fun e w' => e = .returned (.string (strL (leS 4 67324752))) ∧ Below W.heap.size W w') := fun W => l6Bytes_any 67324752 4 W (by omega) (by omega)
  have hfz := flateB_small t
  have hbz : (bodyB t).size ≤ 1048576 := by unfold bodyB; split <;> omega
  have hbI : ((bodyB t).size : Int) ≤ 1048576 := by omega
  have hnI : (n.size : Int) < 65536 := by omega
  have HE : Hid (strL (leS 4 67324752) ++ toldB (howN t) N (crcMore 0 t.data.toList) (bodyB t).size t.size n.size ++ n ++ bodyB t = localB n t N) := by unfold localB headB; rw [mark_is]; exact rfl
  have z1 : ((strL (leS 4 67324752)).size : Int) ≤ 4 := by rw [strL_size, leS_len]; omega
  have z2 : ((toldB (howN t) N (crcMore 0 t.data.toList) (bodyB t).size t.size n.size).size : Int) ≤ 26 := by rw [toldB_size]; omega
  generalize strL (leS 4 67324752) = A4 at *
  generalize toldB (howN t) N (crcMore 0 t.data.toList) (bodyB t).size t.size n.size = FL at *
  generalize localB n t N = RES at *
  generalize howN t = hw at *
  generalize bodyB t = bd at *
  have T0' : Hid (EigS w n y mo d h mi s t (w.alloc (.cells #[.string n, .int .i64 y, .int .i64 mo, .int .i64 d, .int .i64 h, .int .i64 mi, .int .i64 s, .string t] 42))) := ⟨(Below.refl _ _).alloc (Nat.le_refl _) _, by simp, by simp, by simp, by simp, by simp, by simp, by simp, by simp, by simp⟩
  clear k hN hN2 hn ht hfz hbz
  go_enter Tryz.func26, Tryz.ntmps26
  go_wp2_with fail
  obtain ⟨W1, hW1⟩ : ∃ x, w.alloc (.cells #[.string n, .int .i64 y, .int .i64 mo, .int .i64 d, .int .i64 h, .int .i64 mi, .int .i64 s, .string t] 42) = x := ⟨_, rfl⟩
  rw [hW1] at T0'
  rw [hW1]
  have T1 := T0'
  clear T0' hW1
  refine (unhide CHow W1).mono ?_
  rintro e W2 ⟨rfl, Bd⟩
  have T2 := hide ((unhide T1).later Bd)
  clear Bd T1 CHow
  go_wp2_with fail
  refine wp_region_held_drew (S := fun W => EightB W w.heap.size n y mo d h mi s t) hmix (unhide T2).2.2 (fun hS => ?_)
  refine wpAnyH_take (i := 1) (v := .agg #[.string n, .int .i64 y, .int .i64 mo, .int .i64 d, .int .i64 h, .int .i64 mi, .int .i64 s, .string t]) rfl (by kernel_rfl) (by kernel_rfl) (by kernel_rfl) (fun _ _ _ h => h) (Or.inl ⟨by rfl, fun W hSw => by obtain ⟨s0, s1, s2, s3, s4, s5, s6, s7⟩ := hSw; go_simp⟩) hS ?_
  refine wpAnyH_take (i := 4) (v := .pointer (some ⟨w.heap.size, 0, none⟩)) rfl (by kernel_rfl) (by kernel_rfl) (by kernel_rfl) (fun _ _ _ h => h) (Or.inl ⟨by rfl, fun W hSw => by obtain ⟨s0, s1, s2, s3, s4, s5, s6, s7⟩ := hSw; go_simp⟩) hS ?_
  refine wpAnyH_take (i := 5) (v := .string n) rfl (by kernel_rfl) (by kernel_rfl) (by kernel_rfl) (fun _ _ _ h => h) (Or.inl ⟨by rfl, fun W hSw => by obtain ⟨s0, s1, s2, s3, s4, s5, s6, s7⟩ := hSw; go_simp⟩) hS ?_
  refine wpAnyH_take (i := 7) (v := .string bd) rfl (by kernel_rfl) (by kernel_rfl) (by kernel_rfl) (fun _ _ _ h => h) (Or.inl ⟨by rfl, fun W hSw => by obtain ⟨s0, s1, s2, s3, s4, s5, s6, s7⟩ := hSw; go_simp⟩) hS ?_
  have T3 : Hid (EigS w n y mo d h mi s t W2.drew) := ⟨(unhide T2).1.drew, (unhide T2).2.1, (unhide T2).2.2⟩
  generalize W2.drew = W3 at *
  refine wpAnyH_ready (rs := [0]) (by kernel_rfl) (by simp) ?_
  refine AllReadyH.cons rfl (fun K hK => ?_) AllReadyH.nil
  go_simp
  go_at_call 39
  refine (unhide CM W3).mono ?_
  rintro e W4 ⟨rfl, Bd⟩
  have T4 := hide ((unhide T3).later Bd)
  refine Shut.out hK _ _ (unhide T4).2.2 (fun hS => ?_)
  clear hK K Bd
  refine wpAnyH_ready (rs := [2]) (by kernel_rfl) (by simp) ?_
  refine AllReadyH.cons rfl (fun K hK => ?_) AllReadyH.nil
  go_simp
  go_at_call 40
  refine (unhide CF W4).mono ?_
  rintro e W5 ⟨rfl, Bd⟩
  have T5 := hide ((unhide T4).later Bd)
  refine Shut.out hK _ _ (unhide T5).2.2 (fun hS => ?_)
  clear hK K Bd
  refine wpAnyH_take (i := 3) (v := .string (A4 ++ FL)) rfl (by kernel_rfl) (by kernel_rfl) (by kernel_rfl) (fun _ _ _ h => h) (Or.inl ⟨by rfl, fun W hSw => by obtain ⟨s0, s1, s2, s3, s4, s5, s6, s7⟩ := hSw; go_simp <;> omega⟩) hS ?_
  refine wpAnyH_take (i := 6) (v := .string (A4 ++ FL ++ n)) rfl (by kernel_rfl) (by kernel_rfl) (by kernel_rfl) (fun _ _ _ h => h) (Or.inl ⟨by rfl, fun W hSw => by obtain ⟨s0, s1, s2, s3, s4, s5, s6, s7⟩ := hSw; go_simp <;> omega⟩) hS ?_
  refine wpAnyH_take (i := 8) (v := .string (A4 ++ FL ++ n ++ bd)) rfl (by kernel_rfl) (by kernel_rfl) (by kernel_rfl) (fun _ _ _ h => h) (Or.inl ⟨by rfl, fun W hSw => by obtain ⟨s0, s1, s2, s3, s4, s5, s6, s7⟩ := hSw; go_simp <;> omega⟩) hS ?_
  refine wpAnyH_ready (rs := [9]) (by kernel_rfl) (by simp) ?_
  refine AllReadyH.cons rfl (fun K hK => ?_) AllReadyH.nil
  go_simp
  refine Shut.out hK _ _ (unhide T5).2.2 (fun hS => ?_)
  clear hK K
  refine wpAnyH_done (by kernel_rfl) ?_ _
  clear hS
  generalize hAA : A4 ++ FL ++ n ++ bd = AA
  go_wp2
  go_ret
  exact ⟨by rw [← unhide HE, ← hAA]; rfl, (unhide T5).1⟩
end Go.Proofs.YtgpghapnmalipaaGreatDoor
