/- Of what the proof is made: 5 texts, one behind the other. -/
import Derived.Test.YtbacpebljannfaaGreatDoorGm1
import Derived.Test.YtbacpebljannfaaGreatDoorM18
import Derived.Test.YtbacpebljannfaaGreatDoorM6
import Derived.Test.YtbacpebljannfaaGreatDoorM15
import Derived.WalkLawsBesides
import Derived.Test.YtbacpebljannfaaGreatDoorM2
namespace Go.Proofs.YtbacpebljannfaaGreatDoor
open Go.RowKit Corb
def faultE : Ending := .panicked [{ v := .iface 210 (.agg #[]), recovered := false }]
theorem need_yes (w : World) : Calls Tryz.prog 193 #[.bool true] w fun e w' => e = .returned (.tuple #[]) ∧ w' = w := by
  go_enter Tryz.func193, Tryz.ntmps193
  go_wp2
  go_end0
  exact ⟨rfl, rfl⟩
theorem need_no (w : World) : Calls Tryz.prog 193 #[.bool false] w fun e w' => e = faultE ∧ w' = w := by
  go_enter Tryz.func193, Tryz.ntmps193
  go_wp2
  exact ⟨rfl, rfl, rfl⟩
def NumP (w : World) (b : Nat) (s : ByteArray) (d : Option (Nat × Nat)) (e : Ending) (w' : World) : Prop :=
  Keep1 b w w' ∧ match d with
    | none => e = faultE
    | some (x, q) => e = .returned (.int .i64 (x : Nat)) ∧ Rdr w' b s q
theorem number_any (b p k : Nat) (s : ByteArray) (w : World) (h : Rdr w b s p) (hs : s.size ≤ 2000000) (hk : k ≤ 16) :
    Calls Tryz.prog 192 #[.pointer (some ⟨b, 0, none⟩), .int .i64 (k : Int)] w (NumP w b s (rdN (numB s) (8 * s.size) p k)) := by
  have HP := hide (rdPass_any b p k 0 s w h hs hk)
  unfold NumP
  by_cases hc : p + k ≤ 8 * s.size
  · rw [rdN_yes hc]
    have hd : decide (8 * s.size < p + k) = false := decide_eq_false (by omega)
    have Hd := hide hd
    clear h hs hk hc hd
    go_enter Tryz.func192, Tryz.ntmps192
    go_wp2_with fail
    refine (unhide HP).mono ?_
    rintro e x1 ⟨rfl, r1, k1⟩
    have r2 := r1
    unfold Rdr at r2
    rw [unhide Hd] at r2
    obtain ⟨q0, q1, q2, _⟩ := r2
    have HK := hide (And.intro r1 k1)
    clear r1 k1 HP q0 q1
    go_wp2_with fail
    refine (need_yes _).mono ?_
    rintro e x2 ⟨rfl, hx2⟩
    rw [hx2]
    clear hx2 x2
    go_wp2
    go_ret
    exact ⟨(unhide HK).2, rfl, (unhide HK).1⟩
  · rw [rdN_no hc]
    have hd : decide (8 * s.size < p + k) = true := decide_eq_true (by omega)
    have Hd := hide hd
    clear h hs hk hc hd
    go_enter Tryz.func192, Tryz.ntmps192
    go_wp2_with fail
    refine (unhide HP).mono ?_
    rintro e x1 ⟨rfl, r1, k1⟩
    have r2 := r1
    unfold Rdr at r2
    rw [unhide Hd] at r2
    obtain ⟨q0, q1, q2, _⟩ := r2
    have HK := hide k1
    clear r1 k1 HP q0 q1
    go_wp2_with fail
    refine (need_no _).mono ?_
    rintro e x2 ⟨rfl, hx2⟩
    rw [hx2]
    clear hx2 x2
    exact ⟨rfl, unhide HK, rfl⟩
theorem Keep1.later {b : Nat} {w w1 w2 : World} (h : Keep1 b w w1) (hb : Below w1.heap.size w1 w2) (hbw : b < w1.heap.size) : Keep1 b w w2 :=
  ⟨h.1.trans (hb.mono (Nat.le_of_lt hbw)), fun j hj hne => (hb.block j (Nat.lt_of_lt_of_le hj h.1.size)).trans (h.2 j hj hne), fun j hj => ⟨(hb.cell (p := ⟨b, j, none⟩) hbw).trans (h.3 j hj).1, (hb.frozen (p := ⟨b, j, none⟩) hbw).trans (h.3 j hj).2⟩⟩
def restG (V p : Nat) : Option Nat := if V / 2 ^ p % 2 ^ ((8 - p % 8) % 8) = 0 then some (p + (8 - p % 8) % 8) else none
theorem wholeByte_any (b p : Nat) (s : ByteArray) (w : World) (h : Rdr w b s p) (hs : s.size ≤ 2000000) (hp : p ≤ 8 * s.size) :
    Calls Tryz.prog 194 #[.pointer (some ⟨b, 0, none⟩)] w fun e w' => Keep1 b w w' ∧ match restG (numB s) p with
      | none => e = faultE
      | some q => e = .returned (.tuple #[]) ∧ Rdr w' b s q := by
  have HP := hide (rdClear_any b p s w h hs hp)
  unfold restG
  by_cases hc : numB s / 2 ^ p % 2 ^ ((8 - p % 8) % 8) = 0
  · rw [if_pos hc]
    rw [decide_eq_true hc] at HP
    clear h hs hp hc
    go_enter Tryz.func194, Tryz.ntmps194
    go_wp2_with fail
    refine (unhide HP).mono ?_
    rintro e x1 ⟨rfl, r1, k1⟩
    have HK := hide (And.intro r1 k1)
    clear r1 k1 HP
    go_wp2_with fail
    refine (need_yes _).mono ?_
    rintro e x2 ⟨rfl, hx2⟩
    rw [hx2]
    clear hx2 x2
    go_wp2
    go_end0
    exact ⟨(unhide HK).2, rfl, (unhide HK).1⟩
  · rw [if_neg hc]
    rw [decide_eq_false hc] at HP
    clear h hs hp hc
    go_enter Tryz.func194, Tryz.ntmps194
    go_wp2_with fail
    refine (unhide HP).mono ?_
    rintro e x1 ⟨rfl, r1, k1⟩
    have HK := hide k1
    clear r1 k1 HP
    go_wp2_with fail
    refine (need_no _).mono ?_
    rintro e x2 ⟨rfl, hx2⟩
    rw [hx2]
    clear hx2 x2
    exact ⟨rfl, unhide HK, rfl⟩
set_option maxRecDepth 100000 in
set_option maxHeartbeats 1600000 in
theorem scaled_any (L G M b p k : Nat) (s : ByteArray) (w : World) (h : Rdr w b s p) (hs : s.size ≤ 2000000) (hL : L ≤ 3) (hG : 1 ≤ G) (hG4 : G ≤ 4) (hM : M ≤ 30) (hMG : ∀ k, k < M → k / G ≤ 15) (hk : k ≤ 1000) :
    Calls Tryz.prog 228 #[.pointer (some ⟨b, 0, none⟩), .agg #[.int .i64 (L : Nat), .int .i64 (G : Nat), .int .i64 (M : Nat)], .int .i64 (k : Nat)] w (NumP w b s (scG (numB s) (8 * s.size) L G M k p)) := by
  have hbl := h.lt
  have hA : Keep1 b w (w.alloc (.cells #[.int .i64 (L : Nat), .int .i64 (G : Nat), .int .i64 (M : Nat)] 224)) := (Keep1.refl b w).alloc hbl _
  have hbA : (w.alloc (.cells #[.int .i64 (L : Nat), .int .i64 (G : Nat), .int .i64 (M : Nat)] 224)).heap[w.heap.size]? = some (Obj.cells #[.int .i64 (L : Nat), .int .i64 (G : Nat), .int .i64 (M : Nat)] 224) := alloc_at _ _
  have hrA := h.alloc (.cells #[.int .i64 (L : Nat), .int .i64 (G : Nat), .int .i64 (M : Nat)] 224)
  have HS := hide hs
  have MI : (M : Int) ≤ 30 := by omega
  have kI : (k : Int) ≤ 1000 := by omega
  unfold NumP scG
  by_cases hc : k < M
  · rw [if_pos hc]
    have hcI : decide ((k : Int) < (M : Int)) = true := decide_eq_true (by omega)
    have hcI' : (k : Int) < (M : Int) := by omega
    have hbd := stF_bd hL hG hG4 (hMG k hc)
    have HSt := hide (fun W => step_any L G M k W hL hG hG4 (hMG k hc) (by omega))
    obtain ⟨c0, c1, c2, _⟩ := k3_cells hbA
    have HX := hide (And.intro hA hrA)
    clear h hs hL hG hG4 hM hMG hk hc hA hrA hbA
    generalize hE : stF L G k = E at *
    clear hE
    obtain ⟨E1, E2⟩ := E
    simp only at hbd HSt ⊢
    have e1I : (E1 : Int) ≤ 200000 := by omega
    have e2I : (E2 : Int) ≤ 14 := by omega
    rcases hN : rdN (numB s) (8 * s.size) p E2 with _ | ⟨x, q⟩
    · simp only [Option.bind_none]
      have HNe := hide hN
      clear hN
      go_enter Tryz.func228, Tryz.ntmps228
      go_wp2_with fail
      refine (need_yes _).mono ?_
      rintro e x2 ⟨rfl, hx2⟩
      rw [hx2]
      clear hx2 x2
      go_wp2_with fail
      refine (unhide HSt _).mono ?_
      rintro e x2 ⟨rfl, b2⟩
      have hk2 := (unhide HX).1.later b2 (unhide HX).2.lt
      have hr2 := (unhide HX).2.kept (b2.mono (unhide HX).2.lt)
      have HN := hide (number_any b p E2 s x2 hr2 (unhide HS) (by omega))
      unfold NumP at HN
      rw [unhide HNe] at HN
      have HK := hide hk2
      clear b2 hk2 hr2 HX HSt c0 c1 c2 HNe
      go_wp2_with fail
      refine (unhide HN).mono ?_
      rintro e x3 ⟨k3, rfl⟩
      exact ⟨rfl, (unhide HK).trans k3, rfl⟩
    · simp only [Option.bind_some]
      have HNe := hide hN
      have hxb := (rdN_bd hN).2.2.2
      have hxI : (x : Int) < 65536 := by
        have h1 : 2 ^ E2 ≤ 2 ^ 16 := Nat.pow_le_pow_right (by omega) (by omega)
        have h2 : (2 : Nat) ^ 16 = 65536 := by decide
        omega
      clear hN hxb
      go_enter Tryz.func228, Tryz.ntmps228
      go_wp2_with fail
      refine (need_yes _).mono ?_
      rintro e x2 ⟨rfl, hx2⟩
      rw [hx2]
      clear hx2 x2
      go_wp2_with fail
      refine (unhide HSt _).mono ?_
      rintro e x2 ⟨rfl, b2⟩
      have hk2 := (unhide HX).1.later b2 (unhide HX).2.lt
      have hr2 := (unhide HX).2.kept (b2.mono (unhide HX).2.lt)
      have HN := hide (number_any b p E2 s x2 hr2 (unhide HS) (by omega))
      unfold NumP at HN
      rw [unhide HNe] at HN
      have HK := hide hk2
      clear b2 hk2 hr2 HX HSt c0 c1 c2 HNe
      go_wp2_with fail
      refine (unhide HN).mono ?_
      rintro e x3 ⟨k3, rfl, r3⟩
      have HY := hide (And.intro ((unhide HK).trans k3) r3)
      clear k3 r3 HN HK
      go_wp2
      go_ret
      exact ⟨(unhide HY).1, ret_int (by simp), (unhide HY).2⟩
  · rw [if_neg hc]
    have hcI : decide ((k : Int) < (M : Int)) = false := decide_eq_false (by omega)
    have hcI' : ¬ (k : Int) < (M : Int) := by omega
    have HK := hide hA
    clear h hs hL hG hG4 hM hMG hk hc hA hrA hbA
    go_enter Tryz.func228, Tryz.ntmps228
    go_wp2_with fail
    refine (need_no _).mono ?_
    rintro e x2 ⟨rfl, hx2⟩
    rw [hx2]
    clear hx2 x2
    exact ⟨rfl, unhide HK, rfl⟩
end Go.Proofs.YtbacpebljannfaaGreatDoor
namespace Go.Proofs.YtbacpebljannfaaGreatDoor
open Go.RowKit Corb
theorem xor_full (n : Nat) (h : n ≤ 65535) : n ^^^ 65535 = 65535 - n := by
  apply Nat.eq_of_testBit_eq
  intro i
  have e1 : (65535 : Nat) = 2 ^ 16 - 1 := rfl
  have e2 : 65535 - n = 2 ^ 16 - (n + 1) := by omega
  rw [e2, Nat.testBit_two_pow_sub_succ (by omega), Nat.testBit_xor, e1, Nat.testBit_two_pow_sub_one]
  by_cases hi : i < 16
  · simp [hi]
  · have : n.testBit i = false := Nat.testBit_lt_two_pow (Nat.lt_of_lt_of_le (by omega) (Nat.pow_le_pow_right (by omega) (Nat.le_of_not_lt hi)))
    simp [hi, this]
def bytesG (V sz : Nat) : Nat → Nat → List UInt8 → Option (List UInt8 × Nat)
  | 0, p, T => some (T, p)
  | n + 1, p, T => (rdN V sz p 8).bind fun x => (addL T ((x.1 : Nat), 0, 0)).bind fun T' => bytesG V sz n x.2 T'
def storeG (V sz p : Nat) (T : List UInt8) : Option (List UInt8 × Nat) :=
  (restG V p).bind fun q => (rdN V sz q 16).bind fun a => (rdN V sz a.2 16).bind fun c => if c.1 = 65535 - a.1 then bytesG V sz a.1 c.2 T else none
theorem bytesG_bd {V sz : Nat} : ∀ (n p : Nat) (T T' : List UInt8) (q : Nat), bytesG V sz n p T = some (T', q) → p ≤ sz → q ≤ sz ∧ p ≤ q ∧ (T.length ≤ 300 → T'.length ≤ 300) := by
  intro n
  induction n with
  | zero =>
    intro p T T' q h hp
    simp only [bytesG, Option.some.injEq, Prod.mk.injEq] at h
    obtain ⟨rfl, rfl⟩ := h
    exact ⟨hp, Nat.le_refl _, id⟩
  | succ n ih =>
    intro p T T' q h hp
    simp only [bytesG] at h
    rcases h1 : rdN V sz p 8 with _ | ⟨x, r⟩
    · rw [h1] at h; cases h
    · rw [h1] at h
      simp only [Option.bind_some] at h
      have b1 := rdN_bd h1
      rcases h2 : addL T ((x : Nat), 0, 0) with _ | T2
      · rw [h2] at h; cases h
      · rw [h2] at h
        simp only [Option.bind_some] at h
        obtain ⟨a1, a2, a3⟩ := ih r T2 T' q h b1.1
        exact ⟨a1, by omega, fun _ => a3 (addL_len h2)⟩
theorem restG_bd {V p q : Nat} (h : restG V p = some q) : p ≤ q ∧ q = p + (8 - p % 8) % 8 := by
  unfold restG at h
  split at h
  · simp only [Option.some.injEq] at h; omega
  · cases h
theorem storeG_bd {V sz p q : Nat} {T T' : List UInt8} (h : storeG V sz p T = some (T', q)) : q ≤ sz ∧ p ≤ q ∧ (T.length ≤ 300 → T'.length ≤ 300) := by
  unfold storeG at h
  rcases h1 : restG V p with _ | r
  · rw [h1] at h; cases h
  rw [h1] at h
  simp only [Option.bind_some] at h
  rcases h2 : rdN V sz r 16 with _ | ⟨a, r2⟩
  · rw [h2] at h; cases h
  rw [h2] at h
  simp only [Option.bind_some] at h
  rcases h3 : rdN V sz r2 16 with _ | ⟨c, r3⟩
  · rw [h3] at h; cases h
  rw [h3] at h
  simp only [Option.bind_some] at h
  split at h
  · have b1 := restG_bd h1
    have b2 := rdN_bd h2
    have b3 := rdN_bd h3
    obtain ⟨a1, a2, a3⟩ := bytesG_bd _ _ _ _ _ h b3.1
    exact ⟨a1, by omega, a3⟩
  · cases h
end Go.Proofs.YtbacpebljannfaaGreatDoor
namespace Go.Proofs.YtbacpebljannfaaGreatDoor
open Go.RowKit Corb
def lbG (V sz : Nat) : List Nat → Nat → List Int → Option (List Int × Nat)
  | [], p, l => some (l, p)
  | i :: is, p, l => (rdN V sz p 3).bind fun x => lbG V sz is x.2 (l.set i ((x.1 : Nat) : Int))
def lenBkG (V sz many p : Nat) : Option (List Int × Nat) := (lbG V sz (ordL.take many) p (List.replicate 19 0)).bind fun x => if lensOk x.1 = true then some x else none
theorem lbG_bd {V sz : Nat} : ∀ (is : List Nat) (p : Nat) (l l' : List Int) (q : Nat), lbG V sz is p l = some (l', q) → p ≤ sz → q ≤ sz ∧ p ≤ q ∧ l'.length = l.length := by
  intro is
  induction is with
  | nil =>
    intro p l l' q h hp
    simp only [lbG, Option.some.injEq, Prod.mk.injEq] at h
    obtain ⟨rfl, rfl⟩ := h
    exact ⟨hp, Nat.le_refl _, rfl⟩
  | cons i is ih =>
    intro p l l' q h hp
    simp only [lbG] at h
    rcases h1 : rdN V sz p 3 with _ | ⟨x, r⟩
    · rw [h1] at h; cases h
    · rw [h1] at h
      simp only [Option.bind_some] at h
      have b1 := rdN_bd h1
      obtain ⟨a1, a2, a3⟩ := ih _ _ _ _ h b1.1
      exact ⟨a1, by omega, by rw [a3, List.length_set]⟩
theorem lenBkG_bd {V sz many p q : Nat} {l : List Int} (h : lenBkG V sz many p = some (l, q)) (hp : p ≤ sz) : q ≤ sz ∧ p ≤ q ∧ lensOk l = true ∧ l.length = 19 := by
  unfold lenBkG at h
  rcases h1 : lbG V sz (ordL.take many) p (List.replicate 19 0) with _ | ⟨l1, q1⟩
  · rw [h1] at h; cases h
  · rw [h1] at h
    simp only [Option.bind_some] at h
    split at h
    · simp only [Option.some.injEq, Prod.mk.injEq] at h
      obtain ⟨rfl, rfl⟩ := h
      obtain ⟨a1, a2, a3⟩ := lbG_bd _ _ _ _ _ h1 hp
      exact ⟨a1, a2, by assumption, by rw [a3]; simp⟩
    · cases h
def addLn (V sz : Nat) (A : List Int) (k : Int) (q : Nat) : Option (List Int × Nat) :=
  if k = 16 then (if A.length = 0 then none else (rdN V sz q 2).bind fun x => some (A ++ List.replicate (3 + x.1) (A.getD (A.length - 1) 0), x.2))
  else if k = 17 then (rdN V sz q 3).bind fun x => some (A ++ List.replicate (3 + x.1) 0, x.2)
  else if k = 18 then (rdN V sz q 7).bind fun x => some (A ++ List.replicate (11 + x.1) 0, x.2)
  else some (A ++ [k], q)
def lnF (V sz : Nat) (B : List Int) (n : Nat) : Nat → Nat → List Int → Option (List Int × Nat)
  | 0, _, _ => none
  | f + 1, p, A => if A.length < n then (dec B V sz p).bind fun k => (addLn V sz A k.1 k.2).bind fun x => lnF V sz B n f x.2 x.1
    else if A.length = n then some (A, p) else none
def lnG (V sz : Nat) (B : List Int) (n p : Nat) (A : List Int) : Option (List Int × Nat) := lnF V sz B n (sz + 1 - p) p A
theorem addLn_bd {V sz : Nat} {A A' : List Int} {k : Int} {q r : Nat} (h : addLn V sz A k q = some (A', r)) (hq : q ≤ sz) : r ≤ sz ∧ q ≤ r ∧ A.length < A'.length ∧ A'.length ≤ A.length + 138 := by
  unfold addLn at h
  have key : ∀ (bt c : Nat) (v : Int), bt ≤ 7 → c ≤ 11 → 3 ≤ c → (rdN V sz q bt).bind (fun x => some (A ++ List.replicate (c + x.1) v, x.2)) = some (A', r) → r ≤ sz ∧ q ≤ r ∧ A.length < A'.length ∧ A'.length ≤ A.length + 138 := by
    intro bt c v hbt hc hc3 h
    rcases h1 : rdN V sz q bt with _ | ⟨x, t⟩
    · rw [h1] at h; cases h
    · rw [h1] at h
      simp only [Option.bind_some, Option.some.injEq, Prod.mk.injEq] at h
      obtain ⟨rfl, rfl⟩ := h
      have b1 := rdN_bd h1
      have b2 : 2 ^ bt ≤ 2 ^ 7 := Nat.pow_le_pow_right (by omega) hbt
      have b3 : (2 : Nat) ^ 7 = 128 := by decide
      refine ⟨b1.1, by omega, ?_, ?_⟩ <;> simp only [List.length_append, List.length_replicate] <;> omega
  split at h
  · split at h
    · cases h
    · exact key 2 3 _ (by omega) (by omega) (by omega) h
  · split at h
    · exact key 3 3 _ (by omega) (by omega) (by omega) h
    · split at h
      · exact key 7 11 _ (by omega) (by omega) (by omega) h
      · simp only [Option.some.injEq, Prod.mk.injEq] at h
        obtain ⟨rfl, rfl⟩ := h
        exact ⟨hq, Nat.le_refl _, by simp, by simp⟩
theorem lnF_more {V sz : Nat} {B : List Int} {n : Nat} : ∀ (m f p : Nat) (A : List Int), sz + 1 - p ≤ m → sz + 1 - p ≤ f → p ≤ sz → lnF V sz B n f p A = lnF V sz B n (sz + 1 - p) p A := by
  intro m
  induction m with
  | zero => intro f p A h1 h2 h3; omega
  | succ m ih =>
    intro f p A h1 h2 h3
    obtain ⟨f', rfl⟩ : ∃ g, f = g + 1 := ⟨f - 1, by omega⟩
    obtain ⟨m', hm⟩ : ∃ g, sz + 1 - p = g + 1 := ⟨sz - p, by omega⟩
    rw [hm]
    simp only [lnF]
    split
    · rcases hd : dec B V sz p with _ | ⟨i, q⟩
      · rfl
      · have hb := dec_bd hd
        simp only [Option.bind_some]
        rcases ha : addLn V sz A i q with _ | ⟨A', r⟩
        · rfl
        · have hr := addLn_bd ha hb.1
          simp only [Option.bind_some]
          rw [ih f' r A' (by omega) (by omega) hr.1, ih m' r A' (by omega) (by omega) hr.1]
    · rfl
theorem lnG_less {V sz : Nat} {B : List Int} {n p : Nat} {A : List Int} (hp : p ≤ sz) (h : A.length < n) : lnG V sz B n p A = (dec B V sz p).bind fun k => (addLn V sz A k.1 k.2).bind fun x => lnG V sz B n x.2 x.1 := by
  unfold lnG
  obtain ⟨m, hm⟩ : ∃ g, sz + 1 - p = g + 1 := ⟨sz - p, by omega⟩
  rw [hm]
  simp only [lnF, if_pos h]
  rcases hd : dec B V sz p with _ | ⟨i, q⟩
  · rfl
  · have hb := dec_bd hd
    simp only [Option.bind_some]
    rcases ha : addLn V sz A i q with _ | ⟨A', r⟩
    · rfl
    · have hr := addLn_bd ha hb.1
      simp only [Option.bind_some]
      exact lnF_more m m r A' (by omega) (by omega) hr.1
theorem lnG_same {V sz : Nat} {B : List Int} {n p : Nat} {A : List Int} (hp : p ≤ sz) (h : ¬ A.length < n) : lnG V sz B n p A = if A.length = n then some (A, p) else none := by
  unfold lnG
  obtain ⟨m, hm⟩ : ∃ g, sz + 1 - p = g + 1 := ⟨sz - p, by omega⟩
  rw [hm]
  simp only [lnF, if_neg h]
theorem lnF_bd {V sz : Nat} {B : List Int} {n : Nat} : ∀ (f p : Nat) (A A' : List Int) (q : Nat), lnF V sz B n f p A = some (A', q) → p ≤ sz → q ≤ sz ∧ p ≤ q ∧ A'.length = n := by
  intro f
  induction f with
  | zero => intro p A A' q h; simp [lnF] at h
  | succ f ih =>
    intro p A A' q h hp
    simp only [lnF] at h
    split at h
    · rcases hd : dec B V sz p with _ | ⟨i, r⟩
      · rw [hd] at h; cases h
      · rw [hd] at h
        have hb := dec_bd hd
        simp only [Option.bind_some] at h
        rcases ha : addLn V sz A i r with _ | ⟨A2, r2⟩
        · rw [ha] at h; cases h
        · rw [ha] at h
          have hr := addLn_bd ha hb.1
          simp only [Option.bind_some] at h
          obtain ⟨h1, h2, h3⟩ := ih _ _ _ _ h hr.1
          exact ⟨h1, by omega, h3⟩
    · split at h
      · simp only [Option.some.injEq, Prod.mk.injEq] at h
        obtain ⟨rfl, rfl⟩ := h
        exact ⟨hp, Nat.le_refl _, by assumption⟩
      · cases h
theorem lnG_bd {V sz : Nat} {B : List Int} {n p q : Nat} {A A' : List Int} (h : lnG V sz B n p A = some (A', q)) (hp : p ≤ sz) : q ≤ sz ∧ p ≤ q ∧ A'.length = n := lnF_bd _ _ _ _ _ h hp
end Go.Proofs.YtbacpebljannfaaGreatDoor
namespace Go.Proofs.YtbacpebljannfaaGreatDoor
open Go.RowKit Corb
def booksG (V sz n : Nat) (A : List Int) (p : Nat) (T : List UInt8) : Option (List UInt8 × Nat) :=
  if lensOk (A.take n) = true then (if lensOk (A.drop n) = true then tokG V sz (A.take n) (A.drop n) p T else none) else none
def ownG (V sz p : Nat) (T : List UInt8) : Option (List UInt8 × Nat) :=
  (rdN V sz p 5).bind fun a => (rdN V sz a.2 5).bind fun c => if a.1 + 257 ≤ 286 ∧ c.1 + 1 ≤ 30 then
    (rdN V sz c.2 4).bind fun m => (lenBkG V sz (m.1 + 4) m.2).bind fun B => (lnG V sz B.1 (a.1 + 257 + (c.1 + 1)) B.2 []).bind fun A => booksG V sz (a.1 + 257) A.1 A.2 T else none
def fixG (V sz p : Nat) (T : List UInt8) : Option (List UInt8 × Nat) := tokG V sz (fixL 288) (List.replicate 32 5) p T
def kindG (V sz k p : Nat) (T : List UInt8) : Option (List UInt8 × Nat) :=
  if k = 0 then storeG V sz p T else if k = 1 then fixG V sz p T else if k = 2 then ownG V sz p T else none
theorem booksG_bd {V sz n p q : Nat} {A : List Int} {T T' : List UInt8} (h : booksG V sz n A p T = some (T', q)) : q ≤ sz ∧ p < q ∧ (T.length ≤ 300 → T'.length ≤ 300) := by
  unfold booksG at h
  split at h
  · split at h
    · exact tokG_bd h
    · cases h
  · cases h
theorem ownG_bd {V sz p q : Nat} {T T' : List UInt8} (h : ownG V sz p T = some (T', q)) : q ≤ sz ∧ p ≤ q ∧ (T.length ≤ 300 → T'.length ≤ 300) := by
  unfold ownG at h
  rcases h1 : rdN V sz p 5 with _ | ⟨a, q1⟩
  · rw [h1] at h; cases h
  rw [h1] at h
  simp only [Option.bind_some] at h
  rcases h2 : rdN V sz q1 5 with _ | ⟨c, q2⟩
  · rw [h2] at h; cases h
  rw [h2] at h
  simp only [Option.bind_some] at h
  split at h
  · rcases h3 : rdN V sz q2 4 with _ | ⟨m, q3⟩
    · rw [h3] at h; cases h
    rw [h3] at h
    simp only [Option.bind_some] at h
    rcases h4 : lenBkG V sz (m + 4) q3 with _ | ⟨B, q4⟩
    · rw [h4] at h; cases h
    rw [h4] at h
    simp only [Option.bind_some] at h
    rcases h5 : lnG V sz B (a + 257 + (c + 1)) q4 [] with _ | ⟨A, q5⟩
    · rw [h5] at h; cases h
    rw [h5] at h
    simp only [Option.bind_some] at h
    have b1 := rdN_bd h1
    have b2 := rdN_bd h2
    have b3 := rdN_bd h3
    have b4 := lenBkG_bd h4 b3.1
    have b5 := lnG_bd h5 b4.1
    have b6 := booksG_bd h
    exact ⟨b6.1, by omega, b6.2.2⟩
  · cases h
theorem kindG_bd {V sz k p q : Nat} {T T' : List UInt8} (h : kindG V sz k p T = some (T', q)) : q ≤ sz ∧ p ≤ q ∧ (T.length ≤ 300 → T'.length ≤ 300) := by
  unfold kindG at h
  split at h
  · exact storeG_bd h
  · split at h
    · have := tokG_bd h
      exact ⟨this.1, by omega, this.2.2⟩
    · split at h
      · exact ownG_bd h
      · cases h
end Go.Proofs.YtbacpebljannfaaGreatDoor
namespace Go.Proofs.YtbacpebljannfaaGreatDoor
open Go.RowKit Corb
def partsF (V sz : Nat) : Nat → Nat → List UInt8 → Option (List UInt8 × Nat)
  | 0, _, _ => none
  | f + 1, p, T => (rdN V sz p 1).bind fun a => (rdN V sz a.2 2).bind fun k => (kindG V sz k.1 k.2 T).bind fun r => if a.1 = 1 then some r else partsF V sz f r.2 r.1
def partsG (V sz p : Nat) (T : List UInt8) : Option (List UInt8 × Nat) := partsF V sz (sz + 1 - p) p T
def wholeG (V sz p : Nat) (T : List UInt8) : Option (List UInt8 × Nat) := (partsG V sz p T).bind fun r => (restG V r.2).bind fun q => some (r.1, q)
theorem partsF_more {V sz : Nat} : ∀ (n f p : Nat) (T : List UInt8), sz + 1 - p ≤ n → sz + 1 - p ≤ f → partsF V sz f p T = partsF V sz (sz + 1 - p) p T := by
  intro n
  induction n with
  | zero =>
    intro f p T h1 h2
    have e : sz + 1 - p = 0 := by omega
    rw [e]
    cases f with
    | zero => rfl
    | succ f =>
      have hd : rdN V sz p 1 = none := rdN_no (by omega)
      simp only [partsF, hd, Option.bind_none]
  | succ n ih =>
    intro f p T h1 h2
    rcases hd : rdN V sz p 1 with _ | ⟨a, q⟩
    · cases f with
      | zero => rw [show sz + 1 - p = 0 by omega]
      | succ f =>
        rcases hm : sz + 1 - p with _ | m
        · simp only [partsF, hd, Option.bind_none]
        · simp only [partsF, hd, Option.bind_none]
    · have hb := rdN_bd hd
      obtain ⟨f', rfl⟩ : ∃ g, f = g + 1 := ⟨f - 1, by omega⟩
      obtain ⟨m, hm⟩ : ∃ g, sz + 1 - p = g + 1 := ⟨sz - p, by omega⟩
      rw [hm]
      simp only [partsF, hd, Option.bind_some]
      rcases hk : rdN V sz q 2 with _ | ⟨k, q2⟩
      · rfl
      · have hb2 := rdN_bd hk
        simp only [Option.bind_some]
        rcases hr : kindG V sz k q2 T with _ | ⟨T', q3⟩
        · rfl
        · have hb3 := kindG_bd hr
          simp only [Option.bind_some]
          split
          · rfl
          · rw [ih f' q3 T' (by omega) (by omega), ih m q3 T' (by omega) (by omega)]
theorem partsG_step {V sz p : Nat} {T : List UInt8} : partsG V sz p T = (rdN V sz p 1).bind fun a => (rdN V sz a.2 2).bind fun k => (kindG V sz k.1 k.2 T).bind fun r => if a.1 = 1 then some r else partsG V sz r.2 r.1 := by
  rcases hd : rdN V sz p 1 with _ | ⟨a, q⟩
  · unfold partsG
    rcases hm : sz + 1 - p with _ | m
    · rfl
    · simp only [partsF, hd, Option.bind_none]
  · have hb := rdN_bd hd
    unfold partsG
    obtain ⟨m, hm⟩ : ∃ g, sz + 1 - p = g + 1 := ⟨sz - p, by omega⟩
    rw [hm]
    simp only [partsF, hd, Option.bind_some]
    rcases hk : rdN V sz q 2 with _ | ⟨k, q2⟩
    · rfl
    · have hb2 := rdN_bd hk
      simp only [Option.bind_some]
      rcases hr : kindG V sz k q2 T with _ | ⟨T', q3⟩
      · rfl
      · have hb3 := kindG_bd hr
        simp only [Option.bind_some]
        split
        · rfl
        · exact partsF_more m m q3 T' (by omega) (by omega)
theorem partsF_bd {V sz : Nat} : ∀ (f p : Nat) (T T' : List UInt8) (q : Nat), partsF V sz f p T = some (T', q) → q ≤ sz ∧ p < q ∧ (T.length ≤ 300 → T'.length ≤ 300) := by
  intro f
  induction f with
  | zero => intro p T T' q h; simp [partsF] at h
  | succ f ih =>
    intro p T T' q h
    simp only [partsF] at h
    rcases hd : rdN V sz p 1 with _ | ⟨a, q1⟩
    · rw [hd] at h; cases h
    rw [hd] at h
    simp only [Option.bind_some] at h
    rcases hk : rdN V sz q1 2 with _ | ⟨k, q2⟩
    · rw [hk] at h; cases h
    rw [hk] at h
    simp only [Option.bind_some] at h
    rcases hr : kindG V sz k q2 T with _ | ⟨T2, q3⟩
    · rw [hr] at h; cases h
    rw [hr] at h
    simp only [Option.bind_some] at h
    have b1 := rdN_bd hd
    have b2 := rdN_bd hk
    have b3 := kindG_bd hr
    split at h
    · simp only [Option.some.injEq, Prod.mk.injEq] at h
      obtain ⟨rfl, rfl⟩ := h
      exact ⟨b3.1, by omega, b3.2.2⟩
    · have b4 := ih _ _ _ _ h
      exact ⟨b4.1, by omega, fun h => b4.2.2 (b3.2.2 h)⟩
theorem partsG_bd {V sz p q : Nat} {T T' : List UInt8} (h : partsG V sz p T = some (T', q)) : q ≤ sz ∧ p < q ∧ (T.length ≤ 300 → T'.length ≤ 300) := partsF_bd _ _ _ _ _ h
end Go.Proofs.YtbacpebljannfaaGreatDoor
