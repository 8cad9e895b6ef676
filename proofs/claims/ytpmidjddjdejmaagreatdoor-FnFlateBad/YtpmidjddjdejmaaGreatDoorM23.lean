/- Of what the proof is made: 2 texts, one behind the other. -/
import Derived.Test.YtpmidjddjdejmaaGreatDoorM14
import Derived.Test.YtpmidjddjdejmaaGreatDoorM22
import Derived.Test.YtpmidjddjdejmaaGreatDoorMp1
import Derived.BigQuiet
import Derived.Test.YtpmidjddjdejmaaGreatDoorM5
import Derived.Test.YtpmidjddjdejmaaGreatDoorWk1
namespace Go.Proofs.YtpmidjddjdejmaaGreatDoor
open Go.RowKit Corb
theorem textP_len (l : List (Int × Int)) : (textP l).length = ((valP l).2 + 7) / 8 := by unfold textP; exact leS_len _ _
theorem allBits {l : List (Int × Int)} (h : lOk l = true) : (valP l).2 ≤ 64000 := by
  unfold lOk at h
  simp only [Bool.and_eq_true, decide_eq_true_eq] at h
  have h1 := outP_bits (0, 0) l (fun x hx => by
    have h2 := h.1
    unfold allOk at h2
    exact (pOk_true.1 (List.all_eq_true.1 h2 x hx)).1.2)
  have h3 : outP (0, 0) l = valP l := rfl
  rw [h3] at h1
  omega
end Go.Proofs.YtpmidjddjdejmaaGreatDoor
namespace Go.Proofs.YtpmidjddjdejmaaGreatDoor
open Go.RowKit Corb
set_option maxRecDepth 100000
def sixS (a b c d e f : ByteArray) : Nat → ByteArray
  | 0 => a | 1 => b | 2 => c | 3 => d | 4 => e | _ => f
theorem sixS_cells (w : World) (a b c d e f : ByteArray) (t : TypeId) : ∀ i, i < 6 → (w.alloc (.cells #[.string a, .string b, .string c, .string d, .string e, .string f] t)).cell? ⟨w.heap.size, 0 + i, none⟩ = some (.string (sixS a b c d e f i)) := by
  intro i hi
  match i, hi with
  | 0, _ => simp [sixS]
  | 1, _ => simp [sixS]
  | 2, _ => simp [sixS]
  | 3, _ => simp [sixS]
  | 4, _ => simp [sixS]
  | 5, _ => simp [sixS]
theorem sixS_size {a b c d e f : ByteArray} {n : Nat} (ha : a.size ≤ n) (hb : b.size ≤ n) (hc : c.size ≤ n) (hd : d.size ≤ n) (he : e.size ≤ n) (hf : f.size ≤ n) (i : Nat) : (sixS a b c d e f i).size ≤ n := by
  match i with
  | 0 => exact ha
  | 1 => exact hb
  | 2 => exact hc
  | 3 => exact hd
  | 4 => exact he
  | _ + 5 => exact hf
def threeS (a b c : ByteArray) : Nat → ByteArray
  | 0 => a | 1 => b | _ => c
theorem threeS_cells (w : World) (a b c : ByteArray) (t : TypeId) : ∀ i, i < 3 → (w.alloc (.cells #[.string a, .string b, .string c] t)).cell? ⟨w.heap.size, 0 + i, none⟩ = some (.string (threeS a b c i)) := by
  intro i hi
  match i, hi with
  | 0, _ => simp [threeS]
  | 1, _ => simp [threeS]
  | 2, _ => simp [threeS]
theorem threeS_size {a b c : ByteArray} {n : Nat} (ha : a.size ≤ n) (hb : b.size ≤ n) (hc : c.size ≤ n) (i : Nat) : (threeS a b c i).size ≤ n := by
  match i with
  | 0 => exact ha
  | 1 => exact hb
  | _ + 2 => exact hc
theorem pack_small (s : ByteArray) (h : s.size ≤ 300) : (⟨(leS 5 (headV s.size) ++ s.data.toList).toArray⟩ : ByteArray).size ≤ 9000 ∧ (⟨(knownL s).toArray⟩ : ByteArray).size ≤ 9000 ∧ (⟨(ownT s).toArray⟩ : ByteArray).size ≤ 9000 := by
  have hsz : ∀ l : List UInt8, (⟨l.toArray⟩ : ByteArray).size = l.length := fun l => by simp [ByteArray.size]
  refine ⟨?_, ?_, ?_⟩
  · rw [hsz, List.length_append, leS_len, str_len]; omega
  · rw [hsz]
    show (textP (fixP s)).length ≤ _
    rw [textP_len]
    have h1 := allBits (fixP_ok s h)
    omega
  · rw [hsz]
    show (textP (ownP _)).length ≤ _
    rw [textP_len]
    have h1 := allBits (ownP_ok _ (toks_len s h) (toks_ok s))
    omega
set_option maxHeartbeats 1600000 in
theorem l11Packed_any (B b m : Nat) (w : World) (h : Rd w B b m) (hm : m ≤ 80000) :
    Calls Tryz.prog 43 #[.pointer (some ⟨b, 0, none⟩)] w fun e w' => (∃ s : ByteArray, e = .returned (.string s) ∧ s.size ≤ 9000) ∧ Rd w' B b (m + 60) ∧ Below b w w' := by
  go_enter Tryz.func43, Tryz.ntmps43
  go_wp2_with fail
  refine (l11Text_any B b m _ h (by omega)).mono ?_
  rintro e w1 ⟨⟨s, rfl, hs⟩, hrd1, hb1⟩
  go_wp2_with fail
  refine (pick_any B b (m + 50) _ _ hrd1 (by omega) (by omega) (by omega)).mono ?_
  rintro e w2 ⟨r, rfl, r0, r1, hrd2, hon2⟩
  have HX : Hid (Rd w2 B b (m + 51) ∧ Below b w w2) := ⟨hrd2, hb1.trans hon2.1⟩
  have hlt2 := hrd2.lt
  obtain ⟨p1, p2, p3⟩ := pack_small s hs
  have HP := hide (And.intro p1 (And.intro p2 p3))
  have HS := hide hs
  clear hrd1 hb1 hrd2 hon2 h p1 p2 p3 hs
  have hc : r = 0 ∨ r = 1 ∨ r = 2 ∨ r = 3 := by omega
  rcases hc with rfl | rfl | rfl | rfl
  · have HC := hide (l5Store_any s w2 (unhide HS))
    go_wp2_with fail
    refine (unhide HC).mono ?_
    rintro e w3 ⟨rfl, hb3⟩
    have HE : Hid (Rd w3 B b (m + 60) ∧ Below b w w3) := ⟨((unhide HX).1.kept (hb3.mono hlt2)).mono (by omega), (unhide HX).2.trans (hb3.mono (Nat.le_of_lt hlt2))⟩
    clear hb3 HC
    go_wp2
    go_ret
    exact ⟨⟨_, rfl, (unhide HP).1⟩, (unhide HE).1, (unhide HE).2⟩
  · have HC := hide (l5Known_any s w2 (unhide HS))
    go_wp2_with fail
    refine (unhide HC).mono ?_
    rintro e w3 ⟨rfl, hb3⟩
    have HE : Hid (Rd w3 B b (m + 60) ∧ Below b w w3) := ⟨((unhide HX).1.kept (hb3.mono hlt2)).mono (by omega), (unhide HX).2.trans (hb3.mono (Nat.le_of_lt hlt2))⟩
    clear hb3 HC
    go_wp2
    go_ret
    exact ⟨⟨_, rfl, (unhide HP).2.1⟩, (unhide HE).1, (unhide HE).2⟩
  · have HC := hide (l5Own_any s w2 (unhide HS))
    go_wp2_with fail
    refine (unhide HC).mono ?_
    rintro e w3 ⟨rfl, hb3⟩
    have HE : Hid (Rd w3 B b (m + 60) ∧ Below b w w3) := ⟨((unhide HX).1.kept (hb3.mono hlt2)).mono (by omega), (unhide HX).2.trans (hb3.mono (Nat.le_of_lt hlt2))⟩
    clear hb3 HC
    go_wp2
    go_ret
    exact ⟨⟨_, rfl, (unhide HP).2.2⟩, (unhide HE).1, (unhide HE).2⟩
  · go_wp2_with fail
    refine (of_le B b (m + 51) w2.heap.size 0 6 6 100 _ _ ((unhide HX).1.alloc _) (by omega) (by omega) (by omega) (Nat.ne_of_gt hlt2) (sixS_cells w2 _ _ _ _ _ _ _) (sixS_size (by decide) (by decide) (by decide) (by decide) (by decide) (by decide))).mono ?_
    rintro e w3 ⟨t0, hsz, rfl, hrd3, hon3⟩
    have HE : Hid (Rd w3 B b (m + 60) ∧ Below b w w3) := ⟨hrd3.mono (by omega), ((unhide HX).2.alloc (Nat.le_of_lt hlt2) _).trans hon3.1⟩
    clear hrd3 hon3
    go_wp2
    go_ret
    exact ⟨⟨_, rfl, by omega⟩, (unhide HE).1, (unhide HE).2⟩
set_option maxHeartbeats 1600000 in
theorem l11Bent_any (B b m : Nat) (s : ByteArray) (w : World) (h : Rd w B b m) (hm : m ≤ 80000) (hs : s.size ≤ 9000) :
    Calls Tryz.prog 42 #[.pointer (some ⟨b, 0, none⟩), .string s] w fun e w' => (∃ t : ByteArray, e = .returned (.string t) ∧ t.size ≤ 9100) ∧ Rd w' B b (m + 10) ∧ Below b w w' := by
  have hmix : Tryz.prog.follows .mixedOrders = true := by kernel_rfl
  have hsI : (s.size : Int) ≤ 9000 := by omega
  go_enter Tryz.func42, Tryz.ntmps42
  by_cases hE : s.toList.isEmpty = true
  · go_wp2
    go_ret
    exact ⟨⟨_, rfl, by omega⟩, h.mono (by omega), Below.refl _ _⟩
  · have hE' : s.toList.isEmpty = false := by simpa using hE
    have hpos : 0 < s.size := by
      rcases Nat.eq_zero_or_pos s.size with h0 | h0
      · have e : s = ByteArray.empty := ByteArray.size_eq_zero_iff.1 h0
        subst e
        exact absurd (by unfold ByteArray.toList ByteArray.toList.loop; rfl) hE
      · exact h0
    have hp' : (0 : Int) < (s.size : Int) := by omega
    clear hE
    go_wp2_with fail
    refine (pick_any B b m _ _ h (by omega) (by omega) (by omega)).mono ?_
    rintro e w1 ⟨k', rfl, k0', k1', hrd1, hon1⟩
    obtain ⟨k, rfl⟩ := Int.eq_ofNat_of_zero_le k0'
    have hkl : k < s.size := by omega
    go_wp2_with fail
    refine (pick_any B b (m + 1) _ _ hrd1 (by omega) (by omega) (by omega)).mono ?_
    rintro e w2 ⟨r, rfl, r0, r1, hrd2, hon2⟩
    have HX : Hid (Rd w2 B b (m + 2) ∧ Below b w w2) := ⟨hrd2, hon1.1.trans hon2.1⟩
    have hlt2 := hrd2.lt
    clear hrd1 hon1 hrd2 hon2 h
    have hc : r = 0 ∨ r = 1 ∨ r = 2 ∨ r = 3 ∨ r = 4 := by omega
    have k0 : (0 : Int) ≤ (k : Int) := by omega
    have k1 : (k : Int) < (s.size : Int) := by omega
    have k2 : (k : Int) ≤ (s.size : Int) := by omega
    have k3 : (k : Int) + 1 ≤ (s.size : Int) := by omega
    have k5 : (0 : Int) ≤ (k : Int) + 1 := by omega
    rcases hc with rfl | rfl | rfl | rfl | rfl
    · go_wp2_with fail
      refine wp_region_held_drew (S := fun _ => True) hmix trivial (fun hS => ?_)
      refine wpAnyH_take (i := 0) (v := .string s) rfl (by kernel_rfl) (by kernel_rfl) (by kernel_rfl) (fun _ _ _ h => h) (Or.inl ⟨by rfl, fun W hSw => by go_simp⟩) hS ?_
      refine wpAnyH_take (i := 1) (v := .int .i64 (k : Nat)) rfl (by kernel_rfl) (by kernel_rfl) (by kernel_rfl) (fun _ _ _ h => h) (Or.inl ⟨by rfl, fun W hSw => by go_simp⟩) hS ?_
      refine wpAnyH_take (i := 2) (v := .string (s.extract 0 k)) rfl (by kernel_rfl) (by kernel_rfl) (by kernel_rfl) (fun _ _ _ h => h) (Or.inl ⟨by rfl, fun W hSw => by go_simp⟩) hS ?_
      refine wpAnyH_take (i := 3) (v := .pointer (some ⟨b, 0, none⟩)) rfl (by kernel_rfl) (by kernel_rfl) (by kernel_rfl) (fun _ _ _ h => h) (Or.inl ⟨by rfl, fun W hSw => by go_simp⟩) hS ?_
      refine wpAnyH_take (i := 9) (v := .string s) rfl (by kernel_rfl) (by kernel_rfl) (by kernel_rfl) (fun _ _ _ h => h) (Or.inl ⟨by rfl, fun W hSw => by go_simp⟩) hS ?_
      refine wpAnyH_take (i := 10) (v := .int .i64 (k : Nat)) rfl (by kernel_rfl) (by kernel_rfl) (by kernel_rfl) (fun _ _ _ h => h) (Or.inl ⟨by rfl, fun W hSw => by go_simp⟩) hS ?_
      refine wpAnyH_take (i := 11) (v := .int .i64 ((k : Int) + 1)) rfl (by kernel_rfl) (by kernel_rfl) (by kernel_rfl) (fun _ _ _ h => h) (Or.inl ⟨by rfl, fun W hSw => by go_simp; exact wrap_id _ (by omega) (by omega)⟩) hS ?_
      refine wpAnyH_take (i := 12) (v := .string (s.extract (k + 1) s.size)) rfl (by kernel_rfl) (by kernel_rfl) (by kernel_rfl) (fun _ _ _ h => h) (Or.inl ⟨by rfl, fun W hSw => by go_simp⟩) hS ?_
      refine wpAnyH_ready (rs := [4]) (by kernel_rfl) (by simp) ?_
      refine AllReadyH.cons rfl (fun K hK => ?_) AllReadyH.nil
      go_simp
      go_at_call 45
      refine (pick_any B b (m + 2) _ _ (show Rd w2.drew B b (m + 2) from (unhide HX).1) (by omega) (by omega) (by omega)).mono ?_
      rintro e w3 ⟨q, rfl, q0, q1, hrd3, hon3⟩
      refine Shut.out hK _ _ trivial (fun hS => ?_)
      clear hK K
      obtain ⟨y, rfl⟩ := Int.eq_ofNat_of_zero_le q0
      have hy : y < 256 := by omega
      have hu : IntKind.u8.wrap (y : Int) = (y : Int) := u8_id (by omega) (by omega)
      have HX3 : Hid (Rd w3 B b (m + 3) ∧ Below b w w3) := ⟨hrd3, (unhide HX).2.drew.trans hon3.1⟩
      have hlt3 := hrd3.lt
      clear hrd3 hon3
      refine wpAnyH_take (i := 5) (v := .int .u8 (y : Int)) rfl (by kernel_rfl) (by kernel_rfl) (by kernel_rfl) (fun _ _ _ h => h) (Or.inl ⟨by rfl, fun W hSw => by go_simp⟩) hS ?_
      refine wpAnyH_ready (rs := [6]) (by kernel_rfl) (by simp) ?_
      refine AllReadyH.cons rfl (fun K hK => ?_) AllReadyH.nil
      go_simp
      refine Shut.out hK _ _ trivial (fun _ => ?_)
      clear hK K hS
      have hqb := byte_back0 w3 y hy
      have HE : Hid (Rd (w3.alloc (.cells #[.int .u8 (y : Int)] 5)) B b (m + 10) ∧ Below b w (w3.alloc (.cells #[.int .u8 (y : Int)] 5))) := ⟨((unhide HX3).1.alloc _).mono (by omega), (unhide HX3).2.alloc (Nat.le_of_lt hlt3) _⟩
      obtain ⟨w4, hw4⟩ : ∃ x, w3.alloc (.cells #[.int .u8 (y : Int)] 5) = x := ⟨_, rfl⟩
      rw [hw4] at HE hqb
      refine wpAnyH_weaken (S' := fun W => W = w4) (fun _ _ => trivial) _ _ _ _ ?_
      have hS : w3.alloc (.cells #[.int .u8 (y : Int)] 5) = w4 := hw4
      generalize UInt8.ofNat y = yy at *
      refine wpAnyH_take (i := 7) (v := .string ⟨[yy].toArray⟩) rfl (by kernel_rfl) (by kernel_rfl) (by kernel_rfl) (fun _ _ _ h => h) (Or.inl ⟨by rfl, fun W hSw => by subst hSw; go_simp⟩) hS ?_
      refine wpAnyH_take (i := 8) (v := .string (s.extract 0 k ++ (⟨[yy].toArray⟩ : ByteArray))) rfl (by kernel_rfl) (by kernel_rfl) (by kernel_rfl) (fun _ _ _ h => h) (Or.inl ⟨by rfl, fun W hSw => by subst hSw; go_simp <;> omega⟩) hS ?_
      refine wpAnyH_take (i := 13) (v := .string (s.extract 0 k ++ (⟨[yy].toArray⟩ : ByteArray) ++ s.extract (k + 1) s.size)) rfl (by kernel_rfl) (by kernel_rfl) (by kernel_rfl) (fun _ _ _ h => h) (Or.inl ⟨by rfl, fun W hSw => by subst hSw; go_simp <;> omega⟩) hS ?_
      refine wpAnyH_ready (rs := [14]) (by kernel_rfl) (by simp) ?_
      refine AllReadyH.cons rfl (fun K hK => ?_) AllReadyH.nil
      go_simp
      refine Shut.out hK _ _ rfl (fun _ => ?_)
      clear hK K
      refine wpAnyH_done (by kernel_rfl) ?_ _
      clear hqb hS hw4
      have hZ : (s.extract 0 k ++ (⟨[yy].toArray⟩ : ByteArray) ++ s.extract (k + 1) s.size).size ≤ 9100 := by
        have e1 : (⟨[yy].toArray⟩ : ByteArray).size = 1 := rfl
        rw [cat_size, cat_size, ByteArray.size_extract, ByteArray.size_extract, e1]
        omega
      generalize s.extract 0 k ++ (⟨[yy].toArray⟩ : ByteArray) ++ s.extract (k + 1) s.size = Zz at *
      go_wp2
      go_ret
      exact ⟨⟨_, rfl, hZ⟩, (unhide HE).1, (unhide HE).2⟩
    · have hZ : (s.extract 0 k).size ≤ 9100 := by rw [ByteArray.size_extract]; omega
      go_wp2
      go_ret
      exact ⟨⟨_, rfl, hZ⟩, (unhide HX).1.mono (by omega), (unhide HX).2⟩
    · go_wp2_with fail
      refine (of_le B b (m + 2) w2.heap.size 0 3 3 100 _ _ ((unhide HX).1.alloc _) (by omega) (by omega) (by omega) (Nat.ne_of_gt hlt2) (threeS_cells w2 _ _ _ _) (threeS_size (by decide) (by decide) (by decide))).mono ?_
      rintro e w3 ⟨t0, hsz, rfl, hrd3, hon3⟩
      have HE : Hid (Rd w3 B b (m + 10) ∧ Below b w w3) := ⟨hrd3.mono (by omega), ((unhide HX).2.alloc (Nat.le_of_lt hlt2) _).trans hon3.1⟩
      have hZ : (s ++ t0).size ≤ 9100 := by rw [cat_size]; omega
      have htI : (t0.size : Int) ≤ 100 := by omega
      clear hrd3 hon3
      go_wp2
      go_ret
      exact ⟨⟨_, rfl, hZ⟩, (unhide HE).1, (unhide HE).2⟩
    · go_wp2
      go_ret
      exact ⟨⟨_, rfl, by omega⟩, (unhide HX).1.mono (by omega), (unhide HX).2⟩
    · go_wp2
      go_ret
      exact ⟨⟨_, rfl, by omega⟩, (unhide HX).1.mono (by omega), (unhide HX).2⟩
theorem drawFlateGet_any (a : Option Addr) (len cap : Nat) (z : Nat → Int) (w : World) (h : Src w a len z) (hc : len ≤ cap) (hm : len ≤ maxLen) :
    Calls Tryz.prog 21 #[.slice a len cap] w fun e w' => (∃ s : ByteArray, e = .returned (.string s) ∧ s.size ≤ 9100) ∧ Below w.heap.size w w' := by
  go_enter Tryz.func21, Tryz.ntmps21
  go_wp2_with fail
  refine (l1Open_any a len cap z _ h hc hm).mono ?_
  rintro e w1 ⟨rfl, hrd, hbel, hsz⟩
  go_wp2_with fail
  refine (l11Packed_any _ _ 0 _ hrd (by omega)).mono ?_
  rintro e w2 ⟨⟨s, rfl, hs⟩, hrd2, hbel2⟩
  go_wp2_with fail
  refine (l11Bent_any _ _ _ s _ hrd2 (by omega) hs).mono ?_
  rintro e w3 ⟨⟨t, rfl, ht⟩, hrd3, hbel3⟩
  go_wp2
  go_ret
  exact ⟨⟨t, rfl, ht⟩, (hbel.trans hbel2).trans hbel3⟩
theorem drawFlateKind_any (a : Option Addr) (len cap : Nat) (z : Nat → Int) (w : World) (h : Src w a len z) (hc : len ≤ cap) (hm : len ≤ maxLen) :
    Calls Tryz.prog 23 #[.slice a len cap] w fun e w' => (∃ s : ByteArray, e = .returned (.string s) ∧ s.size ≤ 9100) ∧ Below w.heap.size w w' := by
  go_enter Tryz.func23, Tryz.ntmps23
  go_wp2_with fail
  refine (drawFlateGet_any a len cap z _ h hc hm).mono ?_
  rintro e w1 ⟨⟨s, rfl, hs⟩, hb⟩
  go_wp2
  go_ret
  exact ⟨⟨s, rfl, hs⟩, hb⟩
end Go.Proofs.YtpmidjddjdejmaaGreatDoor
