/- Of what the proof is made: 4 texts, one behind the other. -/
import Derived.Test.YtpmidjddjdejmaaGreatDoorGq2
import Derived.OwnWalk
import Derived.Test.YtpmidjddjdejmaaGreatDoorM19
namespace Go.Proofs.YtpmidjddjdejmaaGreatDoor
open Go.RowKit Corb
def flateG (s : ByteArray) : Option (List UInt8 × Nat) := if s.size ≤ 700 then wholeG (numB s) (8 * s.size) 0 [] else none
def getV (d : Option (List UInt8 × Nat)) : Value := match d with
  | none => .tuple #[.string ⟨#[]⟩, .int .i64 0, .bool false]
  | some (T, q) => .tuple #[.string ⟨T.toArray⟩, .int .i64 ((q / 8 : Nat) : Int), .bool true]
theorem wholeG_bd {V sz p q : Nat} {T T' : List UInt8} (h : wholeG V sz p T = some (T', q)) (h8 : sz % 8 = 0) : q ≤ sz ∧ p < q ∧ q % 8 = 0 ∧ (T.length ≤ 300 → T'.length ≤ 300) := by
  unfold wholeG at h
  rcases h1 : partsG V sz p T with _ | ⟨T1, q1⟩
  · rw [h1] at h; cases h
  rw [h1] at h
  simp only [Option.bind_some] at h
  rcases h2 : restG V q1 with _ | q2
  · rw [h2] at h; cases h
  rw [h2] at h
  simp only [Option.bind_some, Option.some.injEq, Prod.mk.injEq] at h
  obtain ⟨rfl, rfl⟩ := h
  have b1 := partsG_bd h1
  have b2 := restG_bd h2
  exact ⟨by omega, by omega, by omega, b1.2.2⟩
theorem sou_new (w : World) (s : ByteArray) (t : TypeId) : Sou (w.alloc (.cells #[.string s, .int .i64 0, .bool false, .slice none 0 0] t)) w.heap.size s 0 [] := by
  refine ⟨?_, .slice none 0 0, by simp, by simp, World.ownsRow_nil _ _ _ _⟩
  unfold Rdr
  simp only [Nat.zero_min, Nat.not_lt_zero, decide_false]
  exact ⟨by simp, by simp, by simp, by simp, by simp, by simp, by simp⟩
set_option maxRecDepth 100000 in
set_option maxHeartbeats 1600000 in
theorem implFlateGet_any (s : ByteArray) (w : World) (hs : s.size ≤ 9223372036854775807) (hO : OrdC w) :
    Calls Tryz.prog 14 #[.string s] w fun e w' => e = .returned (getV (flateG s)) ∧ Below w.heap.size w w' := by
  have hA : Below w.heap.size w (w.alloc (.cells #[.string s, .int .i64 0, .bool false, .slice none 0 0] 61)) := (Below.refl _ _).alloc (Nat.le_refl _) _
  by_cases hc : s.size ≤ 700
  · have hU := unpacked_any w.heap.size 0 s [] _ (sou_new w s 61) (by simp) (Nat.zero_le _) (by omega) (hO.later hA) hO.2
    have e : flateG s = wholeG (numB s) (8 * s.size) 0 [] := if_pos hc
    rw [← e] at hU
    have hq : ∀ T q, flateG s = some (T, q) → q ≤ 8 * s.size ∧ q ≤ 5600 := fun T q h => by
      rw [e] at h
      have := wholeG_bd h (by omega)
      omega
    clear e
    generalize flateG s = d at *
    have HU := hide hU
    have HA := hide hA
    have hcI : (s.size : Int) ≤ 700 := by omega
    clear hU hA hO hs hc
    unfold UnP at HU
    rcases d with _ | ⟨T, q⟩
    · unfold getV
      simp only
      clear hq
      go_enter Tryz.func14, Tryz.ntmps14
      go_wp2_with fail
      refine (unhide HU).mono ?_
      rintro e x1 ⟨k1, rfl⟩
      have HK := hide k1.1
      clear k1 HU
      go_wp2
      go_ret3
      exact ⟨rfl, (unhide HA).trans (unhide HK)⟩
    · unfold getV
      simp only
      obtain ⟨hq1, hq2⟩ := hq T q rfl
      have hqI : (q : Int) ≤ 5600 := by omega
      have Hq := hide hq1
      clear hq hq1 hq2
      go_enter Tryz.func14, Tryz.ntmps14
      go_wp2_with fail
      refine (unhide HU).mono ?_
      rintro e x1 ⟨k1, rfl, r1, v, c3, f3, o3⟩
      have HK := hide k1.1
      have c1 := (r1.at (unhide Hq)).2.1
      have hT := o3.text
      have hT' : (convert 22 9 v).run Tryz.prog x1.drew = .ok (.string ⟨T.toArray⟩) x1.drew := BOwn.text (w := x1.drew) o3
      clear k1 HU r1 f3 o3 Hq
      go_wp2_with fail
      have hmix : Tryz.prog.follows .mixedOrders = true := by kernel_rfl
      have c1' : x1.drew.cell? ⟨w.heap.size, 1, none⟩ = some (.int .i64 (q : Int)) := c1
      have c3' : x1.drew.cell? ⟨w.heap.size, 3, none⟩ = some v := c3
      refine wp_region_held_drew (S := fun W => W = x1.drew) hmix rfl (fun hS => ?_)
      refine wpAnyH_take (i := 0) (v := .pointer (some ⟨w.heap.size, 0, none⟩)) rfl (by kernel_rfl) (by kernel_rfl) (by kernel_rfl) (fun _ _ _ h => h) (Or.inl ⟨by rfl, fun W hSw => by subst hSw; go_simp⟩) hS ?_
      refine wpAnyH_take (i := 1) (v := .pointer (some ⟨w.heap.size, 0, none⟩)) rfl (by kernel_rfl) (by kernel_rfl) (by kernel_rfl) (fun _ _ _ h => h) (Or.inl ⟨by rfl, fun W hSw => by subst hSw; go_simp⟩) hS ?_
      refine wpAnyH_take (i := 2) (v := .pointer (some ⟨w.heap.size, 3, none⟩)) rfl (by kernel_rfl) (by kernel_rfl) (by kernel_rfl) (fun _ _ _ h => h) (Or.inl ⟨by rfl, fun W hSw => by subst hSw; go_simp⟩) hS ?_
      refine wpAnyH_take (i := 3) (v := v) rfl (by kernel_rfl) (by kernel_rfl) (by kernel_rfl) (fun _ _ _ h => h) (Or.inl ⟨by rfl, fun W hSw => by subst hSw; go_simp⟩) hS ?_
      refine wpAnyH_take (i := 4) (v := .string ⟨T.toArray⟩) rfl (by kernel_rfl) (by kernel_rfl) (by kernel_rfl) (fun _ _ _ h => h) (Or.inl ⟨by rfl, fun W hSw => by subst hSw; go_simp⟩) hS ?_
      refine wpAnyH_take (i := 5) (v := .pointer (some ⟨w.heap.size, 0, none⟩)) rfl (by kernel_rfl) (by kernel_rfl) (by kernel_rfl) (fun _ _ _ h => h) (Or.inl ⟨by rfl, fun W hSw => by subst hSw; go_simp⟩) hS ?_
      refine wpAnyH_take (i := 6) (v := .pointer (some ⟨w.heap.size, 0, none⟩)) rfl (by kernel_rfl) (by kernel_rfl) (by kernel_rfl) (fun _ _ _ h => h) (Or.inl ⟨by rfl, fun W hSw => by subst hSw; go_simp⟩) hS ?_
      refine wpAnyH_take (i := 7) (v := .pointer (some ⟨w.heap.size, 0, none⟩)) rfl (by kernel_rfl) (by kernel_rfl) (by kernel_rfl) (fun _ _ _ h => h) (Or.inl ⟨by rfl, fun W hSw => by subst hSw; go_simp⟩) hS ?_
      refine wpAnyH_take (i := 8) (v := .pointer (some ⟨w.heap.size, 1, none⟩)) rfl (by kernel_rfl) (by kernel_rfl) (by kernel_rfl) (fun _ _ _ h => h) (Or.inl ⟨by rfl, fun W hSw => by subst hSw; go_simp⟩) hS ?_
      refine wpAnyH_take (i := 9) (v := .int .i64 (q : Int)) rfl (by kernel_rfl) (by kernel_rfl) (by kernel_rfl) (fun _ _ _ h => h) (Or.inl ⟨by rfl, fun W hSw => by subst hSw; go_simp⟩) hS ?_
      refine wpAnyH_take (i := 10) (v := .int .i64 ((q / 8 : Nat) : Int)) rfl (by kernel_rfl) (by kernel_rfl) (by kernel_rfl) (fun _ _ _ h => h) (Or.inl ⟨by rfl, fun W hSw => by subst hSw; go_simp; rw [IntKind.wrap_i64]; omega⟩) hS ?_
      refine wpAnyH_ready (rs := [11]) (by kernel_rfl) (by simp) ?_
      refine AllReadyH.cons rfl (fun K hK => ?_) AllReadyH.nil
      go_simp
      refine Shut.out hK _ _ rfl (fun hS => ?_)
      clear hK K
      refine wpAnyH_ready (rs := [12]) (by kernel_rfl) (by simp) ?_
      refine AllReadyH.cons rfl (fun K hK => ?_) AllReadyH.nil
      go_simp
      refine Shut.out hK _ _ rfl (fun hS => ?_)
      clear hK K
      refine wpAnyH_ready (rs := [13]) (by kernel_rfl) (by simp) ?_
      refine AllReadyH.cons rfl (fun K hK => ?_) AllReadyH.nil
      go_simp
      refine Shut.out hK _ _ rfl (fun hS => ?_)
      clear hK K
      refine wpAnyH_done (by kernel_rfl) ?_ _
      go_wp2
      go_ret3
      exact ⟨rfl, (unhide HA).trans (unhide HK).drew⟩
  · have e : flateG s = none := if_neg hc
    rw [e]
    have hcI : (700 : Int) < (s.size : Int) := by omega
    have hsI : (s.size : Int) ≤ 9223372036854775807 := by omega
    have HA := hide hA
    clear hA hO hs hc e
    unfold getV
    simp only
    go_enter Tryz.func14, Tryz.ntmps14
    go_wp2
    go_ret3
    exact ⟨rfl, unhide HA⟩
def kindV (s : ByteArray) : Int := match flateG s with
  | none => -1
  | some _ => (((s.data.toList.getD 0 0).toNat / 2 % 4 : Nat) : Int)
theorem kind_bits (s : ByteArray) (h : 0 < s.size) : bits .and .i64 (wrap64 (s[0].toNat : Int) / 2) 3 = (((s.data.toList.getD 0 0).toNat / 2 % 4 : Nat) : Int) := by
  have e : s[0] = s.data.toList.getD 0 0 := by
    have h' : 0 < s.data.toList.length := by simpa using h
    rw [List.getD_eq_getElem?_getD, List.getElem?_eq_getElem h']
    rfl
  rw [e]
  generalize s.data.toList.getD 0 0 = x
  have hx := x.toNat_lt
  have e2 : wrap64 (x.toNat : Int) / 2 = ((x.toNat / 2 : Nat) : Int) := by unfold wrap64; omega
  rw [e2]
  have := i64_and_nat (x.toNat / 2) 3 (by omega) (by omega)
  rw [show ((3 : Nat) : Int) = 3 from rfl] at this
  rw [this, show (3 : Nat) = 2 ^ 2 - 1 from rfl, Nat.and_two_pow_sub_one_eq_mod]
set_option maxRecDepth 100000 in
theorem implFlateKind_any (s : ByteArray) (w : World) (hs : s.size ≤ 9223372036854775807) (hO : OrdC w) :
    Calls Tryz.prog 15 #[.string s] w fun e w' => e = .returned (.int .i64 (kindV s)) ∧ Below w.heap.size w w' := by
  have HG := hide (implFlateGet_any s w hs hO)
  have hpos : ∀ T q, flateG s = some (T, q) → 0 < s.size := fun T q h => by
    unfold flateG at h
    split at h
    · have := wholeG_bd h (by omega)
      omega
    · cases h
  clear hs hO
  unfold kindV
  generalize flateG s = d at *
  rcases d with _ | ⟨T, q⟩
  · unfold getV at HG
    simp only at HG ⊢
    clear hpos
    go_enter Tryz.func15, Tryz.ntmps15
    go_wp2_with fail
    refine (unhide HG).mono ?_
    rintro e x1 ⟨rfl, b1⟩
    have HB := hide b1
    clear b1 HG
    go_wp2
    go_ret
    exact ⟨rfl, unhide HB⟩
  · unfold getV at HG
    simp only at HG ⊢
    have h0 := hpos T q rfl
    clear hpos
    go_enter Tryz.func15, Tryz.ntmps15
    go_wp2_with fail
    refine (unhide HG).mono ?_
    rintro e x1 ⟨rfl, b1⟩
    have HB := hide b1
    clear b1 HG
    have hk : Hid (bits .and .i64 (wrap64 (s[0].toNat : Int) / 2) 3 = (((s.data.toList.getD 0 0).toNat / 2 % 4 : Nat) : Int)) := kind_bits s h0
    go_wp2_with fail
    go_ret
    refine ⟨?_, unhide HB⟩
    rw [unhide hk]
    rfl
end Go.Proofs.YtpmidjddjdejmaaGreatDoor
namespace Go.Proofs.YtpmidjddjdejmaaGreatDoor
open Go.RowKit Corb
theorem parts_part {V sz p : Nat} {T : List UInt8} : partsG V sz p T = (partD V sz p T).bind fun r => if V / 2 ^ p % 2 = 1 then some r else partsG V sz r.2 r.1 := by
  rw [partsG_step]
  unfold partD
  by_cases h1 : p + 1 ≤ sz
  · rw [rdN_yes h1]
    simp only [Option.bind_some]
    rcases rdN V sz (p + 1) 2 with _ | ⟨k, q⟩
    · rfl
    · rfl
  · rw [rdN_no h1]
    rfl
def GmI (sz V : Nat) (D : Option (List UInt8 × Nat)) (T : List UInt8) (q : Nat) (f l : Bool) : Prop :=
  (f = false → q ≤ sz ∧ T.length ≤ 300 + q) ∧ (f = false → T.length ≤ 300 → l = false → partsG V sz q T = D) ∧ (f = false → T.length ≤ 300 → l = true → D = some (T, q)) ∧ ((f = true ∨ 300 < T.length) → D = none)
theorem GmI.next {sz V q q' : Nat} {D : Option (List UInt8 × Nat)} {T T' : List UInt8} {f' : Bool} (h : GmI sz V D T q false false) (hm : MR sz (q + 1 + 2) T (partD V sz q T) T' q' f') : GmI sz V D T' q' f' (decide (((V / 2 ^ q % 2 : Nat) : Int) = 1)) := by
  obtain ⟨h1, h2, _, h4⟩ := h
  obtain ⟨m1, m2, m3, m4⟩ := hm
  have hdone : (f' = true ∨ 300 < T'.length) → D = none := fun hc => by
    by_cases hT : T.length ≤ 300
    · rw [← h2 rfl hT rfl, parts_part, m3 hT hc]
      rfl
    · exact h4 (.inr (by omega))
  have hT3 : f' = false → T'.length ≤ 300 → T.length ≤ 300 := fun hf hT' => by
    by_cases hT : T.length ≤ 300
    · exact hT
    · rcases m4 (by omega) with h | h
      · rw [h] at hf; cases hf
      · omega
  refine ⟨fun hf => ⟨(m1 hf).1, (m1 hf).2.2⟩, fun hf hT' hl => ?_, fun hf hT' hl => ?_, hdone⟩
  · have hT := hT3 hf hT'
    have hx := of_decide_eq_false hl
    rw [← h2 rfl hT rfl, parts_part (V := V) (sz := sz) (p := q) (T := T), m2 hT hf hT']
    simp only [Option.bind_some]
    rw [if_neg (by omega)]
  · have hT := hT3 hf hT'
    have hx := of_decide_eq_true hl
    rw [← h2 rfl hT rfl, parts_part (V := V) (sz := sz) (p := q) (T := T), m2 hT hf hT']
    simp only [Option.bind_some]
    rw [if_pos (by omega)]
theorem rf_new (w : World) (s : ByteArray) (t : TypeId) : RF (w.alloc (.cells #[.string s, .int .i64 0, .bool false] t)) w.heap.size s 0 false := by
  unfold RF
  simp only [Nat.zero_min]
  exact ⟨by simp, by simp, by simp, by simp, by simp, by simp, by simp⟩
set_option maxRecDepth 100000 in
set_option maxHeartbeats 3200000 in
theorem l5Get_any (s : ByteArray) (w : World) (hs : s.size ≤ 2000) :
    Calls Tryz.prog 44 #[.string s] w fun e w' => e = .returned (getV (wholeG (numB s) (8 * s.size) 0 [])) ∧ Below w.heap.size w w' := by
  have hmix : Tryz.prog.follows .mixedOrders = true := by kernel_rfl
  obtain ⟨D, hD⟩ : ∃ D, partsG (numB s) (8 * s.size) 0 [] = D := ⟨_, rfl⟩
  have HG : Hid (wholeG (numB s) (8 * s.size) 0 [] = D.bind fun r => (restG (numB s) r.2).bind fun q => some (r.1, q)) := by
    show _ = _
    unfold wholeG
    rw [hD]
  have HD := hide hD
  have HN := hide hs
  have hsI : (s.size : Int) ≤ 2000 := by omega
  have R0 := rf_new w s 121
  have A0 : Below w.heap.size w (w.alloc (.cells #[.string s, .int .i64 0, .bool false] 121)) := (Below.refl _ _).alloc (Nat.le_refl _) _
  have hlt0 : w.heap.size + 1 = (w.alloc (.cells #[.string s, .int .i64 0, .bool false] 121)).heap.size := by simp
  have H0 := hide (And.intro R0 (And.intro A0 hlt0))
  clear hs hD R0 A0 hlt0
  go_enter Tryz.func44, Tryz.ntmps44
  go_wp2_with fail
  obtain ⟨R0, A0, hlt0⟩ := unhide H0
  have hR1 : World.ownsRow ((w.alloc (.cells #[.string s, .int .i64 0, .bool false] 121)).alloc (.cells #[] 5)) (w.heap.size + 1) 5 1 (.slice (some ⟨w.heap.size + 1, 0, none⟩) 0 0) 0 [] := by
    have h : World.ownsRow ((w.alloc (.cells #[.string s, .int .i64 0, .bool false] 121)).alloc (.cells #[] 5)) (w.alloc (.cells #[.string s, .int .i64 0, .bool false] 121)).heap.size 5 1 (.slice (some ⟨(w.alloc (.cells #[.string s, .int .i64 0, .bool false] 121)).heap.size, 0, none⟩) 0 0) 0 [] := World.ownsRow_lit _ #[] 0 (Nat.le_refl _) (by unfold maxLen; omega) rfl
    rwa [← hlt0] at h
  have A1 : Below (w.heap.size + 1) (w.alloc (.cells #[.string s, .int .i64 0, .bool false] 121)) ((w.alloc (.cells #[.string s, .int .i64 0, .bool false] 121)).alloc (.cells #[] 5)) := (Below.refl _ _).alloc (Nat.le_of_eq hlt0) _
  have R1 := R0.kept A1
  have B1 := hide (A0.trans (A1.mono (Nat.le_succ _)))
  have HMS1 : Hid (BOwn ((w.alloc (.cells #[.string s, .int .i64 0, .bool false] 121)).alloc (.cells #[] 5)) (w.heap.size + 1) (.slice (some ⟨w.heap.size + 1, 0, none⟩) 0 0) [] ∧ RF ((w.alloc (.cells #[.string s, .int .i64 0, .bool false] 121)).alloc (.cells #[] 5)) w.heap.size s 0 false) := ⟨hR1, R1⟩
  clear hR1 A1 R1 A0 R0 hlt0 H0
  generalize (w.alloc (.cells #[.string s, .int .i64 0, .bool false] 121)).alloc (.cells #[] 5) = x1 at *
  go_loopw [6, 7, 8, 9] (fun v l _ _ wr => ∃ (T : List UInt8) (q : Nat) (f l' : Bool), l = .bool l' ∧ BOwn wr (w.heap.size + 1) v T ∧ RF wr w.heap.size s q f ∧ Below w.heap.size w wr ∧ GmI (8 * s.size) (numB s) D T q f l') (fun _ l _ _ wr => match l with | .bool true => 0 | _ => farN w.heap.size (8 * s.size) wr)
  case atStart => exact ⟨[], 0, false, false, rfl, (unhide HMS1).1, (unhide HMS1).2, unhide B1, ⟨fun _ => ⟨Nat.zero_le _, Nat.zero_le _⟩, fun _ _ _ => unhide HD, fun _ _ => nofun, fun h => by rcases h with h | h <;> simp at h⟩⟩
  case round =>
    obtain ⟨T, q, f, l, rfl, ho, hr, hbel, hI⟩ := hrel
    clear HMS1 B1
    obtain ⟨m, hm⟩ : ∃ m, T.length = m := ⟨_, rfl⟩
    obtain ⟨va, vc, rfl⟩ := ho.formN hm
    obtain ⟨c2, f2⟩ := hr.bad
    have hltb := hr.lt
    have Hm := hide hm
    have HO := hide ho
    have HR := hide hr
    have HB := hide hbel
    have HI := hide hI
    have HFar := hide hr.far
    clear hm ho hr hbel hI
    cases f
    · cases l
      · have hq := (unhide HI).1 rfl
        have HC := hide (partM_any w.heap.size q m vc va s T wr (unhide Hm) (unhide HO) (rf_rdr (unhide HR) hq.1) hq.1 (unhide HN) (by have := unhide Hm; omega))
        have Hq := hide hq
        clear hq
        go_wp2_with fail
        refine (unhide HC).mono ?_
        rintro e x2 ⟨k2, v2, T2, q2, f2', rfl, o2, r2, m2⟩
        have hI2 := (unhide HI).next m2
        have HF2 : Hid ((match (Value.bool (decide (((numB s / 2 ^ q % 2 : Nat) : Int) = 1))) with | .bool true => 0 | _ => farN w.heap.size (8 * s.size) x2) < farN w.heap.size (8 * s.size) wr) := by
          show _ < _
          rw [unhide HFar]
          have := (unhide Hq).1
          simp only [Bool.false_eq_true, if_false]
          cases hl : decide (((numB s / 2 ^ q % 2 : Nat) : Int) = 1)
          · simp only
            rw [r2.far]
            cases f2'
            · have := m2.1 rfl
              simp only [Bool.false_eq_true, if_false]
              omega
            · simp only [if_true]
              omega
          · simp only
            omega
        generalize decide (((numB s / 2 ^ q % 2 : Nat) : Int) = 1) = l2 at *
        have HY : Hid (BOwn x2 (w.heap.size + 1) v2 T2 ∧ RF x2 w.heap.size s q2 f2' ∧ Below w.heap.size w x2 ∧ GmI (8 * s.size) (numB s) D T2 q2 f2' l2) := ⟨o2, r2, (unhide HB).trans k2.1, hI2⟩
        clear k2 o2 r2 m2 hI2 HC
        go_wp2_with fail
        go_roundw
        case rel => exact ⟨T2, q2, f2', l2, rfl, (unhide HY).1, (unhide HY).2.1, (unhide HY).2.2.1, (unhide HY).2.2.2⟩
        case measure => exact unhide HF2
      · have hq := (unhide HI).1 rfl
        have HW := hide (whole_rf w.heap.size q false s wr (unhide HR) hq.1 (by have := unhide HN; omega))
        have Hq := hide hq
        have hmI : (m : Int) ≤ 100000 := by have := unhide Hm; have := unhide HN; omega
        have hR : Hid (restG (numB s) q = if numB s / 2 ^ q % 2 ^ ((8 - q % 8) % 8) = 0 then some (q + (8 - q % 8) % 8) else none) := rfl
        obtain ⟨Q, hQ⟩ : ∃ Q, q + (8 - q % 8) % 8 = Q := ⟨_, rfl⟩
        have hQs : Q ≤ 8 * s.size := by omega
        rw [hQ] at HW hR
        clear hq hQ
        by_cases hc1 : numB s / 2 ^ q % 2 ^ ((8 - q % 8) % 8) = 0
        · rw [decide_eq_true hc1] at HW
          rw [if_pos hc1] at hR
          clear hc1
          by_cases hm3 : m ≤ 300
          · have hm3I : ¬ (300 : Int) < (m : Int) := by omega
            have HV : Hid (wholeG (numB s) (8 * s.size) 0 [] = some (T, Q)) := by
              show _ = _
              rw [unhide HG, (unhide HI).2.2.1 rfl (by rw [unhide Hm]; exact hm3) rfl]
              simp only [Option.bind_some]
              rw [unhide hR]
              rfl
            go_wp2_with fail
            refine (unhide HW).mono ?_
            rintro e x2 ⟨rfl, r2, k2⟩
            obtain ⟨c3, f3⟩ := r2.bad
            have c1 : x2.cell? ⟨w.heap.size, 1, none⟩ = some (.int .i64 (Q : Int)) := by have := r2.2.1; rwa [Nat.min_eq_left hQs] at this
            have o2 := (unhide HO).keep1 k2 (Nat.lt_succ_self _)
            have hT' : (convert 22 9 (.slice va m vc)).run Tryz.prog x2.drew = .ok (.string ⟨T.toArray⟩) x2.drew := BOwn.text (w := x2.drew) o2
            have c1' : x2.drew.cell? ⟨w.heap.size, 1, none⟩ = some (.int .i64 (Q : Int)) := c1
            have hQI : (Q : Int) ≤ 16000 := by have := unhide HN; omega
            have HB2 := hide ((unhide HB).trans k2.1)
            clear HW r2 k2 o2 HR HO
            go_wp2_with fail
            refine wp_region_held_drew (S := fun W => W = x2.drew) hmix rfl (fun hS => ?_)
            refine wpAnyH_take (i := 0) (v := .slice va m vc) rfl (by kernel_rfl) (by kernel_rfl) (by kernel_rfl) (fun _ _ _ h => h) (Or.inl ⟨by rfl, fun W hSw => by subst hSw; go_simp⟩) hS ?_
            refine wpAnyH_take (i := 1) (v := .string ⟨T.toArray⟩) rfl (by kernel_rfl) (by kernel_rfl) (by kernel_rfl) (fun _ _ _ h => h) (Or.inl ⟨by rfl, fun W hSw => by subst hSw; go_simp⟩) hS ?_
            refine wpAnyH_take (i := 2) (v := .pointer (some ⟨w.heap.size, 0, none⟩)) rfl (by kernel_rfl) (by kernel_rfl) (by kernel_rfl) (fun _ _ _ h => h) (Or.inl ⟨by rfl, fun W hSw => by subst hSw; go_simp⟩) hS ?_
            refine wpAnyH_take (i := 3) (v := .pointer (some ⟨w.heap.size, 0, none⟩)) rfl (by kernel_rfl) (by kernel_rfl) (by kernel_rfl) (fun _ _ _ h => h) (Or.inl ⟨by rfl, fun W hSw => by subst hSw; go_simp⟩) hS ?_
            refine wpAnyH_take (i := 4) (v := .pointer (some ⟨w.heap.size, 1, none⟩)) rfl (by kernel_rfl) (by kernel_rfl) (by kernel_rfl) (fun _ _ _ h => h) (Or.inl ⟨by rfl, fun W hSw => by subst hSw; go_simp⟩) hS ?_
            refine wpAnyH_take (i := 5) (v := .int .i64 (Q : Int)) rfl (by kernel_rfl) (by kernel_rfl) (by kernel_rfl) (fun _ _ _ h => h) (Or.inl ⟨by rfl, fun W hSw => by subst hSw; go_simp⟩) hS ?_
            refine wpAnyH_take (i := 6) (v := .int .i64 ((Q / 8 : Nat) : Int)) rfl (by kernel_rfl) (by kernel_rfl) (by kernel_rfl) (fun _ _ _ h => h) (Or.inl ⟨by rfl, fun W hSw => by subst hSw; go_simp; rw [IntKind.wrap_i64]; omega⟩) hS ?_
            refine wpAnyH_ready (rs := [7]) (by kernel_rfl) (by simp) ?_
            refine AllReadyH.cons rfl (fun K hK => ?_) AllReadyH.nil
            go_simp
            refine Shut.out hK _ _ rfl (fun hS => ?_)
            clear hK K
            refine wpAnyH_ready (rs := [8]) (by kernel_rfl) (by simp) ?_
            refine AllReadyH.cons rfl (fun K hK => ?_) AllReadyH.nil
            go_simp
            refine Shut.out hK _ _ rfl (fun hS => ?_)
            clear hK K
            refine wpAnyH_ready (rs := [9]) (by kernel_rfl) (by simp) ?_
            refine AllReadyH.cons rfl (fun K hK => ?_) AllReadyH.nil
            go_simp
            refine Shut.out hK _ _ rfl (fun hS => ?_)
            clear hK K
            refine wpAnyH_done (by kernel_rfl) ?_ _
            go_wp2
            go_ret3
            exact ⟨by rw [unhide HV]; rfl, (unhide HB2).drew⟩
          · have hm3I : (300 : Int) < (m : Int) := by omega
            have HV : Hid (wholeG (numB s) (8 * s.size) 0 [] = none) := by
              show _ = _
              rw [unhide HG, (unhide HI).2.2.2 (.inr (by rw [unhide Hm]; omega))]
              rfl
            go_wp2_with fail
            refine (unhide HW).mono ?_
            rintro e x2 ⟨rfl, r2, k2⟩
            obtain ⟨c3, f3⟩ := r2.bad
            have HB2 := hide ((unhide HB).trans k2.1)
            clear HW r2 k2
            go_wp2
            go_ret3
            exact ⟨by rw [unhide HV]; rfl, unhide HB2⟩
        · rw [decide_eq_false hc1] at HW
          rw [if_neg hc1] at hR
          clear hc1
          have HV : Hid (wholeG (numB s) (8 * s.size) 0 [] = none) := by
            show _ = _
            rw [unhide HG]
            by_cases hm3 : m ≤ 300
            · rw [(unhide HI).2.2.1 rfl (by rw [unhide Hm]; exact hm3) rfl]
              simp only [Option.bind_some]
              rw [unhide hR]
              rfl
            · rw [(unhide HI).2.2.2 (.inr (by rw [unhide Hm]; omega))]
              rfl
          go_wp2_with fail
          refine (unhide HW).mono ?_
          rintro e x2 ⟨rfl, r2, k2⟩
          obtain ⟨c3, f3⟩ := r2.bad
          have HB2 := hide ((unhide HB).trans k2.1)
          clear HW r2 k2
          go_wp2
          go_ret3
          exact ⟨by rw [unhide HV]; rfl, unhide HB2⟩
    · have HV : Hid (wholeG (numB s) (8 * s.size) 0 [] = none) := by
        show _ = _
        rw [unhide HG, (unhide HI).2.2.2 (.inl rfl)]
        rfl
      obtain ⟨q0, hq0, hr0⟩ := (unhide HR).cut
      have HW := hide (whole_rf w.heap.size q0 true s wr hr0 hq0 (by have := unhide HN; omega))
      clear hr0 hq0
      cases l
      · go_wp2_with fail
        refine (unhide HW).mono ?_
        rintro e x2 ⟨rfl, r2, k2⟩
        obtain ⟨c3, f3⟩ := r2.bad
        have HB2 := hide ((unhide HB).trans k2.1)
        clear HW r2 k2
        go_wp2
        go_ret3
        exact ⟨by rw [unhide HV]; rfl, unhide HB2⟩
      · go_wp2_with fail
        refine (unhide HW).mono ?_
        rintro e x2 ⟨rfl, r2, k2⟩
        obtain ⟨c3, f3⟩ := r2.bad
        have HB2 := hide ((unhide HB).trans k2.1)
        clear HW r2 k2
        go_wp2
        go_ret3
        exact ⟨by rw [unhide HV]; rfl, unhide HB2⟩
end Go.Proofs.YtpmidjddjdejmaaGreatDoor
namespace Go.Proofs.YtpmidjddjdejmaaGreatDoor
open Go.RowKit Corb
theorem flateG_pos {s : ByteArray} {T : List UInt8} {q : Nat} (h : flateG s = some (T, q)) : 0 < s.size := by
  unfold flateG at h
  split at h
  · have := wholeG_bd h (by omega)
    omega
  · cases h
theorem kind_rem (s : ByteArray) (h : 0 < s.size) : Int.tmod (wrap64 ((wrap64 (s[0].toNat : Int)).tdiv 2)) 4 = (((s.data.toList.getD 0 0).toNat / 2 % 4 : Nat) : Int) := by
  have e : s[0] = s.data.toList.getD 0 0 := by
    have h' : 0 < s.data.toList.length := by simpa using h
    rw [List.getD_eq_getElem?_getD, List.getElem?_eq_getElem h']
    rfl
  rw [e]
  generalize s.data.toList.getD 0 0 = x
  have hx := x.toNat_lt
  have e1 : wrap64 (x.toNat : Int) = (x.toNat : Int) := by unfold wrap64; omega
  have e2 : wrap64 ((wrap64 (x.toNat : Int)).tdiv 2) = ((x.toNat / 2 : Nat) : Int) := by
    rw [e1, Int.tdiv_eq_ediv_of_nonneg (by omega)]
    unfold wrap64
    omega
  rw [e2, Int.tmod_eq_emod_of_nonneg (by omega)]
  omega
set_option maxRecDepth 100000 in
theorem specFlateGet_any (s : ByteArray) (w : World) (hs : s.size ≤ 9223372036854775807) :
    Calls Tryz.prog 22 #[.string s] w fun e w' => e = .returned (getV (flateG s)) ∧ Below w.heap.size w w' := by
  have hsI : (s.size : Int) ≤ 9223372036854775807 := by omega
  by_cases hc : s.size ≤ 700
  · have HU := hide (l5Get_any s w (by omega))
    have e : flateG s = wholeG (numB s) (8 * s.size) 0 [] := if_pos hc
    rw [← e] at HU
    have hcI : ¬ (700 : Int) < (s.size : Int) := by omega
    clear e hs hc
    generalize flateG s = d at *
    rcases d with _ | ⟨T, q⟩
    · unfold getV at HU ⊢
      simp only at HU ⊢
      go_enter Tryz.func22, Tryz.ntmps22
      go_wp2_with fail
      refine (unhide HU).mono ?_
      rintro e x1 ⟨rfl, b1⟩
      have HB := hide b1
      clear b1 HU
      go_wp2
      go_ret3
      exact ⟨rfl, unhide HB⟩
    · unfold getV at HU ⊢
      simp only at HU ⊢
      go_enter Tryz.func22, Tryz.ntmps22
      go_wp2_with fail
      refine (unhide HU).mono ?_
      rintro e x1 ⟨rfl, b1⟩
      have HB := hide b1
      clear b1 HU
      go_wp2
      go_ret3
      exact ⟨rfl, unhide HB⟩
  · have e : flateG s = none := if_neg hc
    rw [e]
    have hcI : (700 : Int) < (s.size : Int) := by omega
    clear hs hc e
    unfold getV
    simp only
    go_enter Tryz.func22, Tryz.ntmps22
    go_wp2
    go_ret3
    exact ⟨rfl, Below.refl _ _⟩
set_option maxRecDepth 100000 in
theorem specFlateKind_any (s : ByteArray) (w : World) (hs : s.size ≤ 9223372036854775807) :
    Calls Tryz.prog 24 #[.string s] w fun e w' => e = .returned (.int .i64 (kindV s)) ∧ Below w.heap.size w w' := by
  have HG := hide (specFlateGet_any s w hs)
  have hpos : ∀ T q, flateG s = some (T, q) → 0 < s.size := fun T q h => flateG_pos h
  clear hs
  unfold kindV
  generalize flateG s = d at *
  rcases d with _ | ⟨T, q⟩
  · unfold getV at HG
    simp only at HG ⊢
    clear hpos
    go_enter Tryz.func24, Tryz.ntmps24
    go_wp2_with fail
    refine (unhide HG).mono ?_
    rintro e x1 ⟨rfl, b1⟩
    have HB := hide b1
    clear b1 HG
    go_wp2
    go_ret
    exact ⟨rfl, unhide HB⟩
  · unfold getV at HG
    simp only at HG ⊢
    have h0 := hpos T q rfl
    clear hpos
    go_enter Tryz.func24, Tryz.ntmps24
    go_wp2_with fail
    refine (unhide HG).mono ?_
    rintro e x1 ⟨rfl, b1⟩
    have HB := hide b1
    clear b1 HG
    have hk : Hid (Int.tmod (wrap64 ((wrap64 (s[0].toNat : Int)).tdiv 2)) 4 = (((s.data.toList.getD 0 0).toNat / 2 % 4 : Nat) : Int)) := kind_rem s h0
    go_wp2_with fail
    go_ret
    refine ⟨?_, unhide HB⟩
    rw [unhide hk]
    rfl
end Go.Proofs.YtpmidjddjdejmaaGreatDoor
namespace Go.Proofs.YtpmidjddjdejmaaGreatDoor
open Go.RowKit Corb
def Low (q V W : Nat) : Prop := V % 2 ^ q = W % 2 ^ q
theorem Low.symm {q V W : Nat} (h : Low q V W) : Low q W V := Eq.symm h
theorem Low.less {q r V W : Nat} (h : Low q V W) (hr : r ≤ q) : Low r V W := by
  unfold Low at h ⊢
  have hd : 2 ^ r ∣ 2 ^ q := Nat.pow_dvd_pow 2 hr
  rw [← Nat.mod_mod_of_dvd V hd, ← Nat.mod_mod_of_dvd W hd, h]
theorem slice_mod (V p k : Nat) : V / 2 ^ p % 2 ^ k = V % 2 ^ (p + k) / 2 ^ p := by rw [Nat.pow_add, Nat.mod_mul_right_div_self]
theorem Low.slice {q V W : Nat} (h : Low q V W) {p k : Nat} (hp : p + k ≤ q) : V / 2 ^ p % 2 ^ k = W / 2 ^ p % 2 ^ k := by
  have := h.less hp
  unfold Low at this
  rw [slice_mod, slice_mod, this]
theorem Low.bit {q V W : Nat} (h : Low q V W) {p : Nat} (hp : p + 1 ≤ q) : bitV V p = bitV W p := by
  have := h.slice hp
  rwa [Nat.pow_one] at this
theorem Low.cd {q V W : Nat} (h : Low q V W) {p : Nat} : ∀ n, p + n ≤ q → cd V p n = cd W p n := by
  intro n
  induction n with
  | zero => intro _; rfl
  | succ n ih =>
    intro hn
    show 2 * Go.Proofs.YtpmidjddjdejmaaGreatDoor.cd V p n + bitV V (p + n) = 2 * Go.Proofs.YtpmidjddjdejmaaGreatDoor.cd W p n + bitV W (p + n)
    rw [ih (by omega), h.bit (by omega)]
section
variable {V W sz sz' : Nat}
theorem rd_low {p k x q : Nat} (h : rdN V sz p k = some (x, q)) (hl : Low q V W) (hs : q ≤ sz') : rdN W sz' p k = some (x, q) := by
  obtain ⟨b1, b2, b3, b4⟩ := rdN_bd h
  rw [rdN_yes (by omega), ← hl.slice (by omega), ← b3, b2]
theorem decF_ge {l : List Int} {p : Nat} {i : Int} {q : Nat} : ∀ (f n : Nat), decF l V sz p f n = some (i, q) → p + n + 1 ≤ q := by
  intro f
  induction f with
  | zero => intro n h; simp [decF] at h
  | succ f ih =>
    intro n h
    simp only [decF] at h
    split at h
    · cases h
    · split at h
      · simp only [Option.some.injEq, Prod.mk.injEq] at h; omega
      · have := ih (n + 1) h; omega
theorem decF_low {l : List Int} {p : Nat} {i : Int} {q : Nat} (hl : Low q V W) (hs : q ≤ sz') : ∀ (f n : Nat), decF l V sz p f n = some (i, q) → decF l W sz' p f n = some (i, q) := by
  intro f
  induction f with
  | zero => intro n h; simp [decF] at h
  | succ f ih =>
    intro n h
    have hg := decF_ge (f + 1) n h
    simp only [decF] at h ⊢
    rw [if_neg (by omega), ← hl.cd (p := p) (n + 1) (by omega)]
    split at h
    · cases h
    · split at h
      · rename_i hc
        rw [if_pos hc]
        exact h
      · rename_i hc
        rw [if_neg hc]
        exact ih (n + 1) h
theorem dec_low {l : List Int} {p : Nat} {i : Int} {q : Nat} (h : dec l V sz p = some (i, q)) (hl : Low q V W) (hs : q ≤ sz') : dec l W sz' p = some (i, q) := decF_low hl hs 15 0 h
theorem sc_low {least group many k p x q : Nat} (h : scG V sz least group many k p = some (x, q)) (hl : Low q V W) (hs : q ≤ sz') : scG W sz' least group many k p = some (x, q) := by
  unfold scG at h ⊢
  split at h
  · rename_i hk
    rw [if_pos hk]
    rcases h1 : rdN V sz p (stF least group k).2 with _ | ⟨y, t⟩
    · rw [h1] at h; cases h
    · rw [h1] at h
      simp only [Option.bind_some, Option.some.injEq, Prod.mk.injEq] at h
      obtain ⟨rfl, rfl⟩ := h
      rw [rd_low h1 hl hs]
      rfl
  · cases h
theorem back_low {D : List Int} {k p : Nat} {t : Tk} {q : Nat} (h : backG V sz D k p = some (t, q)) (hl : Low q V W) (hs : q ≤ sz') : backG W sz' D k p = some (t, q) := by
  unfold backG at h ⊢
  rcases h1 : scG V sz 3 4 28 k p with _ | ⟨a, a2⟩
  · rw [h1] at h; cases h
  rw [h1] at h
  simp only [Option.bind_some] at h
  rcases h2 : dec D V sz a2 with _ | ⟨j, j2⟩
  · rw [h2] at h; cases h
  rw [h2] at h
  simp only [Option.bind_some] at h
  rcases h3 : scG V sz 1 2 30 j.toNat j2 with _ | ⟨c, c2⟩
  · rw [h3] at h; cases h
  rw [h3] at h
  simp only [Option.bind_some, Option.some.injEq, Prod.mk.injEq] at h
  obtain ⟨rfl, rfl⟩ := h
  have b2 := dec_bd h2
  have b3 := scG_bd h3
  rw [sc_low h1 (hl.less (by omega)) (by omega)]
  simp only [Option.bind_some]
  rw [dec_low h2 (hl.less (by omega)) (by omega)]
  simp only [Option.bind_some]
  rw [sc_low h3 hl hs]
  rfl
theorem one_low {D : List Int} {k : Int} {p : Nat} {t : Tk} {q : Nat} (h : oneG V sz D k p = some (t, q)) (hl : Low q V W) (hs : q ≤ sz') : oneG W sz' D k p = some (t, q) := by
  unfold oneG at h ⊢
  split at h
  · rename_i hk
    rw [if_pos hk]
    exact h
  · rename_i hk
    rw [if_neg hk]
    exact back_low h hl hs
theorem tokF_low {L D : List Int} {T' : List UInt8} {q : Nat} (hl : Low q V W) (hs : q ≤ sz') : ∀ (f p : Nat) (T : List UInt8), tokF V sz L D f p T = some (T', q) → tokG W sz' L D p T = some (T', q) := by
  intro f
  induction f with
  | zero => intro p T h; simp [tokF] at h
  | succ f ih =>
    intro p T h
    simp only [tokF] at h
    rcases h1 : dec L V sz p with _ | ⟨k, q1⟩
    · rw [h1] at h; cases h
    rw [h1] at h
    simp only [Option.bind_some] at h
    split at h
    · rename_i hk
      simp only [Option.some.injEq, Prod.mk.injEq] at h
      obtain ⟨rfl, rfl⟩ := h
      subst hk
      exact tokG_end (dec_low h1 hl hs)
    · rename_i hk
      rcases h2 : oneG V sz D k q1 with _ | ⟨t, q2⟩
      · rw [h2] at h; cases h
      rw [h2] at h
      simp only [Option.bind_some] at h
      rcases h3 : addL T t with _ | T2
      · rw [h3] at h; cases h
      rw [h3] at h
      simp only [Option.bind_some] at h
      have b1 := dec_bd h1
      have b2 := oneG_bd h2 b1.1
      have b3 := tokF_bd _ _ _ _ _ h
      rw [tokG_step (dec_low h1 (hl.less (by omega)) (by omega)) hk, one_low h2 (hl.less (by omega)) (by omega)]
      simp only [Option.bind_some]
      rw [h3]
      exact ih _ _ h
theorem tok_low {L D : List Int} {p : Nat} {T T' : List UInt8} {q : Nat} (h : tokG V sz L D p T = some (T', q)) (hl : Low q V W) (hs : q ≤ sz') : tokG W sz' L D p T = some (T', q) := tokF_low hl hs _ _ _ h
theorem rest_low {p q : Nat} (h : restG V p = some q) (hl : Low q V W) : restG W p = some q := by
  unfold restG at h ⊢
  split at h
  · rename_i hc
    simp only [Option.some.injEq] at h
    rw [← hl.slice (by omega), if_pos hc, h]
  · cases h
theorem bytes_low {T' : List UInt8} {q : Nat} (hl : Low q V W) (hs : q ≤ sz') : ∀ (n p : Nat) (T : List UInt8), bytesG V sz n p T = some (T', q) → bytesG W sz' n p T = some (T', q) := by
  intro n
  induction n with
  | zero => intro p T h; exact h
  | succ n ih =>
    intro p T h
    simp only [bytesG] at h ⊢
    rcases h1 : rdN V sz p 8 with _ | ⟨x, q1⟩
    · rw [h1] at h; cases h
    rw [h1] at h
    simp only [Option.bind_some] at h
    rcases h2 : addL T (((x : Nat) : Int), 0, 0) with _ | T2
    · rw [h2] at h; cases h
    rw [h2] at h
    simp only [Option.bind_some] at h
    have b1 := rdN_bd h1
    have b2 := bytesG_bd _ _ _ _ _ h b1.1
    rw [rd_low h1 (hl.less (by omega)) (by omega)]
    simp only [Option.bind_some]
    rw [h2]
    exact ih _ _ h
theorem store_low {p : Nat} {T T' : List UInt8} {q : Nat} (h : storeG V sz p T = some (T', q)) (hl : Low q V W) (hs : q ≤ sz') : storeG W sz' p T = some (T', q) := by
  unfold storeG at h ⊢
  rcases h0 : restG V p with _ | q0
  · rw [h0] at h; cases h
  rw [h0] at h
  simp only [Option.bind_some] at h
  rcases h1 : rdN V sz q0 16 with _ | ⟨a, q1⟩
  · rw [h1] at h; cases h
  rw [h1] at h
  simp only [Option.bind_some] at h
  rcases h2 : rdN V sz q1 16 with _ | ⟨c, q2⟩
  · rw [h2] at h; cases h
  rw [h2] at h
  simp only [Option.bind_some] at h
  split at h
  · rename_i hc
    have b1 := rdN_bd h1
    have b2 := rdN_bd h2
    have b3 := bytesG_bd _ _ _ _ _ h b2.1
    rw [rest_low h0 (hl.less (by omega))]
    simp only [Option.bind_some]
    rw [rd_low h1 (hl.less (by omega)) (by omega)]
    simp only [Option.bind_some]
    rw [rd_low h2 (hl.less (by omega)) (by omega)]
    simp only [Option.bind_some]
    rw [if_pos hc]
    exact bytes_low hl hs _ _ _ h
  · cases h
theorem lb_low {l' : List Int} {q : Nat} (hl : Low q V W) (hs : q ≤ sz') : ∀ (is : List Nat) (p : Nat) (l : List Int), lbG V sz is p l = some (l', q) → p ≤ sz → lbG W sz' is p l = some (l', q) := by
  intro is
  induction is with
  | nil => intro p l h _; exact h
  | cons i is ih =>
    intro p l h hp
    simp only [lbG] at h ⊢
    rcases h1 : rdN V sz p 3 with _ | ⟨x, q1⟩
    · rw [h1] at h; cases h
    rw [h1] at h
    simp only [Option.bind_some] at h
    have b1 := rdN_bd h1
    have b2 := lbG_bd _ _ _ _ _ h b1.1
    rw [rd_low h1 (hl.less (by omega)) (by omega)]
    exact ih _ _ h b1.1
theorem lenBk_low {many p : Nat} {l : List Int} {q : Nat} (h : lenBkG V sz many p = some (l, q)) (hp : p ≤ sz) (hl : Low q V W) (hs : q ≤ sz') : lenBkG W sz' many p = some (l, q) := by
  unfold lenBkG at h ⊢
  rcases h1 : lbG V sz (ordL.take many) p (List.replicate 19 0) with _ | ⟨l1, q1⟩
  · rw [h1] at h; cases h
  rw [h1] at h
  simp only [Option.bind_some] at h
  split at h
  · rename_i hok
    simp only [Option.some.injEq, Prod.mk.injEq] at h
    obtain ⟨rfl, rfl⟩ := h
    rw [lb_low hl hs _ _ _ h1 hp]
    simp only [Option.bind_some]
    rw [if_pos hok]
  · cases h
theorem addLn_low {A A' : List Int} {k : Int} {p q : Nat} (h : addLn V sz A k p = some (A', q)) (hl : Low q V W) (hs : q ≤ sz') : addLn W sz' A k p = some (A', q) := by
  have key : ∀ (bt : Nat) (g : Nat → List Int), (rdN V sz p bt).bind (fun x => some (g x.1, x.2)) = some (A', q) → (rdN W sz' p bt).bind (fun x => some (g x.1, x.2)) = some (A', q) := by
    intro bt g h
    rcases h1 : rdN V sz p bt with _ | ⟨x, q1⟩
    · rw [h1] at h; cases h
    rw [h1] at h
    simp only [Option.bind_some, Option.some.injEq, Prod.mk.injEq] at h
    obtain ⟨rfl, rfl⟩ := h
    rw [rd_low h1 hl hs]
    rfl
  unfold addLn at h ⊢
  split at h
  · rename_i h16
    rw [if_pos h16]
    split at h
    · cases h
    · rename_i h0
      rw [if_neg h0]
      exact key 2 (fun x => A ++ List.replicate (3 + x) (A.getD (A.length - 1) 0)) h
  · rename_i h16
    rw [if_neg h16]
    split at h
    · rename_i h17
      rw [if_pos h17]
      exact key 3 (fun x => A ++ List.replicate (3 + x) 0) h
    · rename_i h17
      rw [if_neg h17]
      split at h
      · rename_i h18
        rw [if_pos h18]
        exact key 7 (fun x => A ++ List.replicate (11 + x) 0) h
      · rename_i h18
        rw [if_neg h18]
        exact h
theorem lnF_low {B A' : List Int} {n q : Nat} (hl : Low q V W) (hs : q ≤ sz') : ∀ (f p : Nat) (A : List Int), lnF V sz B n f p A = some (A', q) → p ≤ sz → lnG W sz' B n p A = some (A', q) := by
  intro f
  induction f with
  | zero => intro p A h; simp [lnF] at h
  | succ f ih =>
    intro p A h hp
    have hb := lnF_bd _ _ _ _ _ h hp
    simp only [lnF] at h
    split at h
    · rename_i hc
      rcases h1 : dec B V sz p with _ | ⟨k, q1⟩
      · rw [h1] at h; cases h
      rw [h1] at h
      simp only [Option.bind_some] at h
      rcases h2 : addLn V sz A k q1 with _ | ⟨A2, q2⟩
      · rw [h2] at h; cases h
      rw [h2] at h
      simp only [Option.bind_some] at h
      have b1 := dec_bd h1
      have b2 := addLn_bd h2 b1.1
      have b3 := lnF_bd _ _ _ _ _ h b2.1
      rw [lnG_less (by omega) hc, dec_low h1 (hl.less (by omega)) (by omega)]
      simp only [Option.bind_some]
      rw [addLn_low h2 (hl.less (by omega)) (by omega)]
      exact ih _ _ h b2.1
    · rename_i hc
      rw [lnG_same (by omega) hc]
      exact h
theorem books_low {n p : Nat} {A : List Int} {T T' : List UInt8} {q : Nat} (h : booksG V sz n A p T = some (T', q)) (hl : Low q V W) (hs : q ≤ sz') : booksG W sz' n A p T = some (T', q) := by
  unfold booksG at h ⊢
  split at h
  · rename_i h1
    rw [if_pos h1]
    split at h
    · rename_i h2
      rw [if_pos h2]
      exact tok_low h hl hs
    · cases h
  · cases h
theorem own_low {p : Nat} {T T' : List UInt8} {q : Nat} (h : ownG V sz p T = some (T', q)) (hl : Low q V W) (hs : q ≤ sz') : ownG W sz' p T = some (T', q) := by
  unfold ownG at h ⊢
  rcases h1 : rdN V sz p 5 with _ | ⟨a, q1⟩
  · rw [h1] at h; cases h
  rw [h1] at h
  simp only [Option.bind_some] at h
  rcases h2 : rdN V sz q1 5 with _ | ⟨c, q2⟩
  · rw [h2] at h; cases h
  rw [h2] at h
  simp only [Option.bind_some] at h
  split at h
  · rename_i hc
    rcases h3 : rdN V sz q2 4 with _ | ⟨m, q3⟩
    · rw [h3] at h; cases h
    rw [h3] at h
    simp only [Option.bind_some] at h
    rcases h4 : lenBkG V sz (m + 4) q3 with _ | ⟨B, q4⟩
    · rw [h4] at h; cases h
    rw [h4] at h
    simp only [Option.bind_some] at h
    rcases h5 : lnG V sz B (a + 257 + (c + 1)) q4 [] with _ | ⟨A, q5⟩
    · rw [h5] at h; cases h
    rw [h5] at h
    simp only [Option.bind_some] at h
    have b1 := rdN_bd h1
    have b2 := rdN_bd h2
    have b3 := rdN_bd h3
    have b4 := lenBkG_bd h4 b3.1
    have b5 := lnG_bd h5 b4.1
    have b6 := booksG_bd h
    rw [rd_low h1 (hl.less (by omega)) (by omega)]
    simp only [Option.bind_some]
    rw [rd_low h2 (hl.less (by omega)) (by omega)]
    simp only [Option.bind_some]
    rw [if_pos hc, rd_low h3 (hl.less (by omega)) (by omega)]
    simp only [Option.bind_some]
    rw [lenBk_low h4 b3.1 (hl.less (by omega)) (by omega)]
    simp only [Option.bind_some]
    have h5' : lnG W sz' B (a + 257 + (c + 1)) q4 [] = some (A, q5) := lnF_low (hl.less (by omega)) (by omega) _ _ _ h5 b4.1
    rw [h5']
    exact books_low h hl hs
  · cases h
theorem kind_low {k p : Nat} {T T' : List UInt8} {q : Nat} (h : kindG V sz k p T = some (T', q)) (hl : Low q V W) (hs : q ≤ sz') : kindG W sz' k p T = some (T', q) := by
  unfold kindG at h ⊢
  split at h
  · rename_i h0
    rw [if_pos h0]
    exact store_low h hl hs
  · rename_i h0
    rw [if_neg h0]
    split at h
    · rename_i h1
      rw [if_pos h1]
      exact tok_low h hl hs
    · rename_i h1
      rw [if_neg h1]
      split at h
      · rename_i h2
        rw [if_pos h2]
        exact own_low h hl hs
      · cases h
theorem partsF_low {T' : List UInt8} {q : Nat} (hl : Low q V W) (hs : q ≤ sz') : ∀ (f p : Nat) (T : List UInt8), partsF V sz f p T = some (T', q) → partsG W sz' p T = some (T', q) := by
  intro f
  induction f with
  | zero => intro p T h; simp [partsF] at h
  | succ f ih =>
    intro p T h
    simp only [partsF] at h
    rcases h1 : rdN V sz p 1 with _ | ⟨a, q1⟩
    · rw [h1] at h; cases h
    rw [h1] at h
    simp only [Option.bind_some] at h
    rcases h2 : rdN V sz q1 2 with _ | ⟨k, q2⟩
    · rw [h2] at h; cases h
    rw [h2] at h
    simp only [Option.bind_some] at h
    rcases h3 : kindG V sz k q2 T with _ | ⟨T2, q3⟩
    · rw [h3] at h; cases h
    rw [h3] at h
    simp only [Option.bind_some] at h
    have b1 := rdN_bd h1
    have b2 := rdN_bd h2
    have b3 := kindG_bd h3
    have b4 : q3 ≤ q := by
      split at h
      · simp only [Option.some.injEq, Prod.mk.injEq] at h; omega
      · have := partsF_bd _ _ _ _ _ h; omega
    rw [partsG_step, rd_low h1 (hl.less (by omega)) (by omega)]
    simp only [Option.bind_some]
    rw [rd_low h2 (hl.less (by omega)) (by omega)]
    simp only [Option.bind_some]
    rw [kind_low h3 (hl.less b4) (by omega)]
    simp only [Option.bind_some]
    split at h
    · rename_i ha
      rw [if_pos ha]
      exact h
    · rename_i ha
      rw [if_neg ha]
      exact ih _ _ h
theorem whole_low {p : Nat} {T T' : List UInt8} {q : Nat} (h : wholeG V sz p T = some (T', q)) (hl : Low q V W) (hs : q ≤ sz') : wholeG W sz' p T = some (T', q) := by
  unfold wholeG at h ⊢
  rcases h1 : partsG V sz p T with _ | ⟨T1, q1⟩
  · rw [h1] at h; cases h
  rw [h1] at h
  simp only [Option.bind_some] at h
  rcases h2 : restG V q1 with _ | q2
  · rw [h2] at h; cases h
  rw [h2] at h
  simp only [Option.bind_some, Option.some.injEq, Prod.mk.injEq] at h
  obtain ⟨rfl, rfl⟩ := h
  have b2 : q1 ≤ q2 := by unfold restG at h2; split at h2 <;> simp at h2; omega
  have h1' : partsG W sz' p T = some (T1, q1) := partsF_low (hl.less b2) (by omega) _ _ _ h1
  rw [h1']
  simp only [Option.bind_some]
  rw [rest_low h2 hl]
  rfl
end
theorem take_low (l r : List UInt8) (n : Nat) (hn : n ≤ l.length) : Low (8 * n) (valB l) (valB (l.take n ++ r)) := by
  have hlen : (l.take n).length = n := by rw [List.length_take]; omega
  have e : valB l = valB (l.take n) + 2 ^ (8 * n) * valB (l.drop n) := by
    have := valB_append (l.take n) (l.drop n)
    rw [List.take_append_drop, hlen] at this
    exact this
  unfold Low
  rw [valB_append, hlen, e, Nat.add_mul_mod_self_left, Nat.add_mul_mod_self_left]
theorem flate_ends {s t : ByteArray} {T : List UInt8} {q : Nat} (h : flateG s = some (T, q)) {r : List UInt8} (ht : t.data.toList = s.data.toList.take (q / 8) ++ r) (hs : t.size ≤ 700) : flateG t = some (T, q) := by
  unfold flateG at h ⊢
  split at h
  · rw [if_pos hs]
    obtain ⟨b1, b2, b3, _⟩ := wholeG_bd h (by omega)
    have hl : s.data.toList.length = s.size := by simp
    have ht' : t.data.toList.length = t.size := by simp
    refine whole_low h ?_ ?_
    · unfold numB
      rw [ht]
      have := take_low s.data.toList r (q / 8) (by omega)
      rwa [show 8 * (q / 8) = q by omega] at this
    · rw [← ht', ht, List.length_append, List.length_take]
      omega
  · cases h
theorem flate_less {s t : ByteArray} {T : List UInt8} {q : Nat} (h : flateG s = some (T, q)) (ht : t.data.toList = s.data.toList.take (q / 8 - 1)) : flateG t = none := by
  rcases h1 : flateG t with _ | ⟨T1, q1⟩
  · rfl
  exfalso
  have h2 := h1
  unfold flateG at h h1
  split at h
  · split at h1
    · obtain ⟨b1, b2, b3, _⟩ := wholeG_bd h (by omega)
      obtain ⟨c1, c2, c3, _⟩ := wholeG_bd h1 (by omega)
      have hl : s.data.toList.length = s.size := by simp
      have ht' : t.data.toList.length = t.size := by simp
      have hsz : t.size = q / 8 - 1 := by rw [← ht', ht, List.length_take]; omega
      have hlow : Low q1 (numB t) (numB s) := by
        unfold numB
        have := take_low s.data.toList [] (q / 8 - 1) (by omega)
        rw [List.append_nil, ← ht] at this
        exact (this.less (by omega)).symm
      have h3 := whole_low h1 hlow (sz' := 8 * s.size) (by omega)
      rw [h] at h3
      simp only [Option.some.injEq, Prod.mk.injEq] at h3
      omega
    · cases h1
  · cases h
end Go.Proofs.YtpmidjddjdejmaaGreatDoor
