/- Of what the proof is made: 14 texts, one behind the other. -/
import Derived.Test.YtpmidjddjdejmaaGreatDoorRb1
import Derived.Test.YtpmidjddjdejmaaGreatDoorM5
import Derived.Test.YtpmidjddjdejmaaGreatDoorM4
import Derived.Test.YtpmidjddjdejmaaGreatDoorM1
import Derived.Test.YtpmidjddjdejmaaGreatDoorStepLaw
import Derived.Deep.CutRange
import Derived.Laws.IdiomStrings
import Derived.Laws.OwnMore
import Derived.Test.YtpmidjddjdejmaaGreatDoorM2
import Derived.Deep.RegionHeld3
import Derived.Deep.DrawnRows
namespace Go.Proofs.YtpmidjddjdejmaaGreatDoor
open Go.RowKit Corb
def Bys (w : World) (b : Nat) (v : Value) (l : List UInt8) : Prop := w.ownsRow (b + 1) 5 1 v l.length (bcells l)
theorem Bys.form {w : World} {b : Nat} {v : Value} {l : List UInt8} (h : Bys w b v l) : ∃ a cap, v = .slice a l.length cap := by
  rcases h.2 with ⟨e, h0⟩ | ⟨g, cap, _, e, _⟩
  · exact ⟨none, 0, by rw [e, h0]⟩
  · exact ⟨_, cap, e⟩
theorem Bys.set {w : World} {b o : Nat} {v : Value} {l : List UInt8} (h : Bys w b v l) (u : Value) : Bys (w.setCell ⟨b, o, none⟩ u) b v l :=
  ownsRow_setCell_below h (a := ⟨b, o, none⟩) (Nat.lt_succ_self b) u
theorem Bys.drew {w : World} {b : Nat} {v : Value} {l : List UInt8} (h : Bys w b v l) : Bys w.drew b v l := h
def Out (w : World) (b V m : Nat) : Prop :=
  V < p2 m ∧ ∃ v, Three w b v (.int .i64 (V / p2 (8 * (m / 8)) : Nat)) (.int .i64 (m % 8 : Nat)) ∧ Bys w b v (leS (m / 8) V)
theorem out_room (V m x : Nat) (hV : V < p2 m) (hx : x ≤ 1) (hr : m % 8 < 7) :
    V + x * p2 m < p2 (m + 1) ∧ (V + x * p2 m) / p2 (8 * ((m + 1) / 8)) = V / p2 (8 * (m / 8)) + x * p2 (m % 8) ∧ leS ((m + 1) / 8) (V + x * p2 m) = leS (m / 8) V := by
  refine ⟨add_lt V x m hV hx, ?_, ?_⟩
  · rw [show (m + 1) / 8 = m / 8 by omega]
    have := div_add V x m (m / 8) (by omega)
    rw [show m - 8 * (m / 8) = m % 8 by omega] at this
    exact this
  · rw [show (m + 1) / 8 = m / 8 by omega]
    exact leS_add (m / 8) V x m (by omega)
theorem out_full (V m x : Nat) (hV : V < p2 m) (hx : x ≤ 1) (hr : m % 8 = 7) :
    V + x * p2 m < p2 (m + 1) ∧ (V + x * p2 m) / p2 (8 * ((m + 1) / 8)) = 0 ∧ (m + 1) % 8 = 0 ∧
      leS ((m + 1) / 8) (V + x * p2 m) = leS (m / 8) V ++ [UInt8.ofNat (V / p2 (8 * (m / 8)) + x * p2 (m % 8))] := by
  have h1 := add_lt V x m hV hx
  refine ⟨h1, ?_, by omega, ?_⟩
  · apply Nat.div_eq_of_lt
    have : p2 (8 * ((m + 1) / 8)) = 2 ^ (m + 1) := by unfold p2; rw [show 8 * ((m + 1) / 8) = m + 1 by omega]
    rw [this]; exact h1
  · rw [show (m + 1) / 8 = m / 8 + 1 by omega]
    have a := leS_add (m / 8) V x m (by omega)
    have d := div_add V x m (m / 8) (by omega)
    rw [show m - 8 * (m / 8) = m % 8 by omega] at d
    have hl := high_lt (V + x * 2 ^ m) (m + 1) (m / 8) h1 (by omega)
    rw [show m + 1 - 8 * (m / 8) = 8 by omega] at hl
    show leS (m / 8) (V + x * 2 ^ m) ++ [UInt8.ofNat ((V + x * 2 ^ m) / 2 ^ (8 * (m / 8)) % 256)] = _
    rw [Nat.mod_eq_of_lt hl, a, d]
    rfl
theorem last_bd (V m : Nat) (hV : V < p2 m) : V / p2 (8 * (m / 8)) < p2 (m % 8) := by
  have := high_lt V m (m / 8) hV (by omega)
  rw [show m - 8 * (m / 8) = m % 8 by omega] at this
  exact this
theorem byte_val (k : Nat) (h : k < 256) : (UInt8.ofNat k).toNat = k := by
  have : k % 256 = k := Nat.mod_eq_of_lt h
  simp [this]
theorem push_after {w W2 WA w' : World} {b : Nat} {v v' v1 v2 : Value} {l : List UInt8} {x : UInt8} (T2 : Three W2 b v v1 v2) (Y2 : Bys W2 b v l) (B2 : Below b w W2)
    (hWA : Below (b + 1) W2 WA) (hown : w'.ownsRow (b + 1) 5 1 v' (l.length + 1) (bcells l ++ [.int .u8 (x.toNat : Int)])) (hgrow : WA.grownBy w' v.ownBlock) :
    (∃ g cap, v' = .slice (some ⟨g, 0, none⟩) (l.length + 1) cap) ∧ Three w' b v v1 v2 ∧ Bys w' b v' (l ++ [x]) ∧ Below b w w' := by
  have hlt := T2.2.2.2.2.2.2
  have hlt2 := Nat.lt_of_lt_of_le hlt hWA.size
  have hblk : ∀ k, v.ownBlock = some k → b + 1 ≤ k := fun k hk => (Y2.lt k hk).1
  have hb : Below (b + 1) W2 w' := hWA.grown hgrow (by omega) hblk
  refine ⟨?_, T2.kept hb, ?_, B2.trans (hb.mono (by omega))⟩
  · rcases hown.2 with ⟨_, h0⟩ | ⟨g, cap, _, e, _⟩
    · omega
    · exact ⟨g, cap, e⟩
  · show w'.ownsRow (b + 1) 5 1 v' (l ++ [x]).length (bcells (l ++ [x]))
    simpa [bcells] using hown
end Go.Proofs.YtpmidjddjdejmaaGreatDoor
namespace Go.Proofs.YtpmidjddjdejmaaGreatDoor
open Go.RowKit Corb
theorem put_bits (n k : Nat) : n % p2 (k + 1) = n % p2 k + n / p2 k % 2 * p2 k := low_bits n k
theorem put_val (V n k m : Nat) : V + n % p2 (k + 1) * p2 m = V + n % p2 k * p2 m + n / p2 k % 2 * p2 (m + k) := by
  rw [put_bits, Nat.add_mul, Nat.mul_assoc, show p2 k * p2 m = p2 (m + k) by unfold p2; rw [← Nat.pow_add, Nat.add_comm]]
  omega
theorem half_pow (n k : Nat) : n / p2 k / 2 = n / p2 (k + 1) := div_pow_succ n k
set_option maxHeartbeats 3200000 in
theorem put_any (b V m : Nat) (num bits : Int) (w : World) (h : Out w b V m) (n0 : 0 ≤ num) (n1 : num < 65536) (b0 : 0 ≤ bits) (b1 : bits ≤ 16) (hm : m ≤ 100000) :
    Calls Tryz.prog 70 #[.pointer (some ⟨b, 0, none⟩), .int .i64 num, .int .i64 bits] w fun e w' => e = .returned (.tuple #[]) ∧
      Out w' b (V + num.toNat % p2 bits.toNat * p2 m) (m + bits.toNat) ∧ Below b w w' := by
  obtain ⟨n, rfl⟩ := Int.eq_ofNat_of_zero_le n0
  obtain ⟨c, rfl⟩ := Int.eq_ofNat_of_zero_le b0
  rw [Int.toNat_natCast, Int.toNat_natCast]
  obtain ⟨i0, hi, hz0, hz1, hz2⟩ := info_parts Tryz.infoU8
  go_enter Tryz.func70, Tryz.ntmps70
  go_wp2
  go_loopw [1, 6] (fun x i wr => ∃ k : Nat, k ≤ c ∧ i = .int .i64 k ∧ x = .int .i64 (n / p2 k : Nat) ∧ Out wr b (V + n % p2 k * p2 m) (m + k) ∧ Below b w wr) (fun _ i _ => c - (intOf i).toNat)
  case atStart => exact ⟨0, Nat.zero_le _, rfl, by simp [p2], by simpa [p2, Nat.mod_one] using h, Below.refl _ _⟩
  case round =>
    obtain ⟨k, hk, rfl, rfl, hout, hbel⟩ := hrel
    by_cases hlt : k < c
    · have hval := hide (put_val V n k m)
      have hhalf := hide (half_pow n k)
      have hnk : n / p2 k ≤ n := Nat.div_le_self _ _
      obtain ⟨hV, v, htr, hby⟩ := hout
      obtain ⟨sa, scap, rfl⟩ := hby.form
      have hlb := last_bd (V + n % p2 k * p2 m) (m + k) hV
      generalize V + n % p2 k * p2 m = V1 at *
      generalize hm1 : m + k = m1 at *
      have hx : n / p2 k % 2 ≤ 1 := by omega
      have hxI : ((n / p2 k : Nat) : Int) % 2 = ((n / p2 k % 2 : Nat) : Int) := by omega
      have hnkI : ((n / p2 k : Nat) : Int) < 65536 := by omega
      have hp7 : p2 (m1 % 8) ≤ 128 := p2_le (m1 % 8) 7 (by omega)
      have hXle : n / p2 k % 2 * p2 (m1 % 8) ≤ 1 * p2 (m1 % 8) := Nat.mul_le_mul_right _ hx
      have hmul : ((n / p2 k % 2 : Nat) : Int) * ((p2 (m1 % 8) : Nat) : Int) = ((n / p2 k % 2 * p2 (m1 % 8) : Nat) : Int) := by simp
      have hroom := out_room V1 m1 (n / p2 k % 2) hV hx
      have hfull := out_full V1 m1 (n / p2 k % 2) hV hx
      have hr8 : m1 % 8 < 8 := Nat.mod_lt _ (by omega)
      have hm1le : m1 ≤ 100016 := by omega
      have hbl : (leS (m1 / 8) V1).length = m1 / 8 := leS_len _ _
      generalize n / p2 k = nk at *
      generalize hxx : nk % 2 = x at *
      generalize hLL : V1 / p2 (8 * (m1 / 8)) = L at *
      generalize hrr : m1 % 8 = r at *
      generalize hPP : p2 r = P at *
      generalize hXX : x * P = X at *
      have HPP := hide hPP
      have Hm1 := hide hm1
      have Hrr := hide hrr
      have Hroom := hide hroom
      have Hfull := hide hfull
      have Hx := hide hxx
      clear hm1 hLL hrr hPP hXX hV hroom hfull hxx hx hnk
      obtain ⟨k0, k1, k2, f0, f1, f2, hbw⟩ := htr
      have htr : Hid (Three wr b _ _ _) := ⟨k0, k1, k2, f0, f1, f2, hbw⟩
      have hrI : (r : Int) < 8 := by omega
      have hLI : (L : Int) < 128 := by omega
      have hXI : (X : Int) ≤ 128 := by omega
      have hkc : (k : Int) < (c : Int) := by omega
      have Hr8 := hide hr8
      have Hm1le := hide hm1le
      have Hk := hide hk
      have HLX : Hid (IntKind.i64.wrap ((L : Int) + IntKind.i64.wrap ((nk : Int).tmod 2 * (P : Int))) = (L : Int) + (X : Int)) := by
        show IntKind.i64.wrap ((L : Int) + IntKind.i64.wrap ((nk : Int).tmod 2 * (P : Int))) = (L : Int) + (X : Int)
        rw [Int.tmod_eq_emod_of_nonneg (by omega), hxI, hmul, wrap_id (X : Int) (by omega) (by omega), wrap_id ((L : Int) + (X : Int)) (by omega) (by omega)]
      clear hr8 hm1le hp7 hXle hlb hk hm
      go_wp2_with fail
      go_cut [] from 7 to 62 (fun wc => wc = (wr.setCell ⟨b, 1, none⟩ (.int .i64 ((L : Int) + (X : Int)))).drew)
      case first =>
        go_region_with (go_at_call 104; refine (l1Pow_any _ _ (by omega)).mono ?_; rintro e w' ⟨rfl, rfl⟩; rw [Int.toNat_natCast, unhide HPP])
        all_goals
          go_wp2_with fail
          go_meet
          exact by rw [unhide HLX]
      case rest =>
        have T1 := ((unhide htr).set1 (.int .i64 ((L : Int) + (X : Int)))).drew
        have Y1 := (hby.set (o := 1) (.int .i64 ((L : Int) + (X : Int)))).drew
        have B1 : Below b w _ := (below_set hbel (o := 1) (Nat.le_refl _) (.int .i64 ((L : Int) + (X : Int)))).drew
        rw [← hcut] at T1 Y1 B1
        clear hcut hby hbel htr k0 k1 k2 f0 f1 f2 hbw hmul hxI
        have T1' := hide T1
        obtain ⟨k0, k1, k2, f0, f1, f2, hbw⟩ := T1
        by_cases hr7 : (r : Int) = 7
        · have hr7N : r = 7 := by omega
          obtain ⟨o1, o2, o3, o4⟩ := unhide Hfull hr7N
          have O1 := hide o1
          have O2 := hide o2
          have O3 := hide o3
          have O4 := hide o4
          have hLX : L + X < 256 := by omega
          have hbv := hide (byte_val (L + X) hLX)
          have hbI : IntKind.u8.wrap ((L : Int) + (X : Int)) = (L : Int) + (X : Int) := by
            rw [IntKind.wrap_u8']; omega
          subst hr7N
          clear o1 o2 o3 o4 hr7 hLX
          have T2 := (unhide T1').set2 (.int .i64 8)
          have Y2 := Y1.set (o := 2) (.int .i64 8)
          have B2 : Below b w _ := below_set B1 (o := 2) (Nat.le_refl _) (.int .i64 8)
          have hlen := hide hbl
          clear hbl
          go_wp2_with fail
          generalize wc.setCell ⟨b, 2, none⟩ (.int .i64 8) = W2 at *
          clear k0 k1 k2 f0 f1 f2 T1' Y1 B1
          have T2' := hide T2
          obtain ⟨k0, k1, k2, f0, f1, f2, hb2⟩ := T2
          have hbv' : Hid (((UInt8.ofNat (L + X)).toNat : Int) = (L : Int) + (X : Int)) := by
            show ((UInt8.ofNat (L + X)).toNat : Int) = (L : Int) + (X : Int)
            rw [unhide hbv]; omega
          have hl2 : (leS (m1 / 8) V1).length ≤ 20000 := by have := unhide hlen; have := unhide Hm1le; omega
          have Hl2 := hide hl2
          clear hl2
          go_cut [] from 7 to 62 (fun wc2 => ∃ v', Three wc2 b v' (.int .i64 ((L : Int) + (X : Int))) (.int .i64 8) ∧ Bys wc2 b v' (leS (m1 / 8) V1 ++ [UInt8.ofNat (L + X)]) ∧ Below b w wc2)
          case first =>
            go_region_law (refine step_append_own rfl (.tmp 47) (.tmp 53) 22 rfl (b + 1) 5 i0 (.int .u8 0) 1 1 Tryz.underlying22 hi hz0 hz1 hz2 rfl (by decide) _ _ _ (by simp [Act.eval]) (Y2.alloc _) ⟨W2.heap.size, 0, none⟩ 1 1 [.int .u8 ((L : Int) + (X : Int))] (by simp [Act.eval]) rfl (by intro j u hj; match j, hj with | 0, hj => simp at hj; subst hj; simp [Addr.add]) (by intro u hu; simp at hu; subst hu; rfl) (by have := unhide Hl2; unfold maxLen; omega) (by have := unhide Hl2; omega) (by simp; omega) ?_; intro v' w' hown hgrow hnil; clear hnil; rw [← unhide hbv'] at hown; obtain ⟨⟨g', cap', rfl⟩, T3, Y3, B3⟩ := push_after (unhide T2') Y2 B2 (by first | exact (Below.refl _ _).alloc (by omega) _ | exact ((Below.refl _ _).alloc (by omega) _).drew) hown hgrow; clear hown hgrow; have T3' := hide T3; obtain ⟨q0, q1, q2, e0, e1, e2, hb3⟩ := T3)
            all_goals
              go_wp2_with fail
              go_meet
              exact ⟨_, (unhide T3').set0 _, Y3.set _, below_set B3 (Nat.le_refl _) _⟩
          case rest =>
            obtain ⟨v', T4, Y4, B4⟩ := hcut
            clear k0 k1 k2 f0 f1 f2 T2' Y2 B2 hb2
            obtain ⟨va, vc, rfl⟩ := Y4.form
            have T4' := hide T4
            obtain ⟨k0, k1, k2, f0, f1, f2, hb4⟩ := T4
            go_wp2
            go_roundw
            case rel =>
              refine ⟨k + 1, by have := unhide Hk; omega, by go_num, by rw [← unhide hhalf]; go_num, ?_, below_set (below_set B4 (Nat.le_refl _) _) (Nat.le_refl _) _⟩
              rw [unhide hval, show m + (k + 1) = m1 + 1 by have := unhide Hm1; omega]
              refine ⟨unhide O1, .slice va (leS (m1 / 8) V1 ++ [UInt8.ofNat (L + X)]).length vc, ?_, ?_⟩
              · rw [unhide O2, unhide O3]
                exact ((unhide T4').set1 _).set2 _
              · rw [unhide O4]
                exact (Y4.set _).set _
            case measure => simp [intOf]; omega
        · have hr8f : ((r : Int) + 1 == 8) = false := by simp; omega
          have hlt7 : r < 7 := by omega
          obtain ⟨o1, o2, o3⟩ := unhide Hroom hlt7
          have O1 := hide o1
          have O2 := hide o2
          have O3 := hide o3
          have hm18 : Hid ((m1 + 1) % 8 = r + 1) := by show (m1 + 1) % 8 = r + 1; have := unhide Hrr; omega
          clear o1 o2 o3 hlt7 hr7
          go_wp2
          go_roundw
          case rel =>
            refine ⟨k + 1, by have := unhide Hk; omega, by go_num, by rw [← unhide hhalf]; go_num, ?_, below_set B1 (Nat.le_refl _) _⟩
            rw [unhide hval, show m + (k + 1) = m1 + 1 by have := unhide Hm1; omega]
            refine ⟨unhide O1, .slice sa (leS (m1 / 8) V1).length scap, ?_, ?_⟩
            · rw [unhide O2, unhide hm18]
              exact (unhide T1').set2 _
            · rw [unhide O3]
              exact Y1.set _
          case measure => simp [intOf]; omega
    · have hkc : k = c := by omega
      subst hkc
      go_wp2
      go_end0
      exact ⟨rfl, hout, hbel⟩
end Go.Proofs.YtpmidjddjdejmaaGreatDoor
namespace Go.Proofs.YtpmidjddjdejmaaGreatDoor
open Go.RowKit Corb
def natP (l : List (Int × Int)) : List (Nat × Nat) := l.map (fun p => (p.1.toNat, p.2.toNat))
def valP (l : List (Int × Int)) : Nat × Nat := putV (0, 0) (natP l)
def textP (l : List (Int × Int)) : List UInt8 := leS (((valP l).2 + 7) / 8) (valP l).1
theorem out_new (w : World) (t : TypeId) : Out (w.alloc (.cells #[.slice none 0 0, .int .i64 0, .int .i64 0] t)) w.heap.size 0 0 := by
  refine ⟨by decide, .slice none 0 0, ⟨by simp, by simp, by simp, by simp, by simp, by simp, by simp⟩, ?_⟩
  exact World.ownsRow_nil _ _ _ _
end Go.Proofs.YtpmidjddjdejmaaGreatDoor
namespace Go.Proofs.YtpmidjddjdejmaaGreatDoor
open Go.RowKit Corb
theorem conv_bytes {w : World} {b : Nat} {v : Value} {l : List UInt8} (h : Bys w b v l) :
    (convert 22 9 v).run Tryz.prog w = .ok (.string ⟨l.toArray⟩) w := by
  rcases h.2 with ⟨e, h0⟩ | ⟨g, cap, _, e, _⟩
  · subst e
    have hl : l = [] := List.eq_nil_of_length_eq_zero h0
    subst hl
    rw [run_convert_bytes_string w _ _ _ none 0 0 Tryz.underlying22 Tryz.underlying5 Tryz.underlying9]
    rfl
  · subst e
    exact run_convert_bytes_back w _ _ _ ⟨g, 0, none⟩ cap l Tryz.underlying22 Tryz.underlying5 Tryz.underlying9 (fun j hj => by
      have := h.cells (g := g) rfl j (.int .u8 (l[j].toNat : Int)) (by simp [bcells, hj])
      exact this)
end Go.Proofs.YtpmidjddjdejmaaGreatDoor
namespace Go.Proofs.YtpmidjddjdejmaaGreatDoor
open Corb
theorem num_step (V p k : Nat) : V / 2 ^ p % 2 ^ (k + 1) = V / 2 ^ p % 2 ^ k + V / 2 ^ (p + k) % 2 * 2 ^ k := by
  rw [low_bits, Nat.div_div_eq_div_mul, ← Nat.pow_add]
end Go.Proofs.YtpmidjddjdejmaaGreatDoor
namespace Go.Proofs.YtpmidjddjdejmaaGreatDoor
open Go.RowKit Corb
def headV (n : Nat) : Nat := 1 + n * 256 + (65535 - n) * 16777216
end Go.Proofs.YtpmidjddjdejmaaGreatDoor
namespace Go.Proofs.YtpmidjddjdejmaaGreatDoor
open Go.RowKit Corb
theorem Two.kept {w w' : World} {b : Nat} {v0 v1 : Value} (h : Two w b v0 v1) (hb : Below (b + 1) w w') : Two w' b v0 v1 := by
  obtain ⟨c0, c1, f0, f1, hlt⟩ := h
  have hs := Nat.lt_succ_self b
  exact ⟨(hb.cell (p := ⟨b, 0, none⟩) hs).trans c0, (hb.cell (p := ⟨b, 1, none⟩) hs).trans c1, (hb.frozen (p := ⟨b, 0, none⟩) hs).trans f0, (hb.frozen (p := ⟨b, 1, none⟩) hs).trans f1, Nat.lt_of_lt_of_le hlt hb.size⟩
theorem Bys.at {w : World} {b g cap j : Nat} {l : List UInt8} (h : Bys w b (.slice (some ⟨g, 0, none⟩) l.length cap) l) (hj : j < l.length) :
    w.cell? ⟨g, j, none⟩ = some (.int .u8 ((l.getD j 0).toNat : Int)) ∧ w.frozen? ⟨g, j, none⟩ = false ∧ b < g := by
  refine ⟨?_, World.ownsRow.frozenAt h j, (World.ownsRow.lt h g rfl).1⟩
  rw [World.ownsRow.cellAt h j (by omega)]
  simp [bcells, hj, List.getD]
theorem Bys.put {w : World} {b g cap j : Nat} {l : List UInt8} (h : Bys w b (.slice (some ⟨g, 0, none⟩) l.length cap) l) (x : UInt8) :
    Bys (w.setCell ⟨g, j, none⟩ (.int .u8 (x.toNat : Int))) b (.slice (some ⟨g, 0, none⟩) l.length cap) (l.set j x) := by
  have := World.ownsRow.stored h j (.int .u8 (x.toNat : Int))
  show World.ownsRow _ _ _ _ _ (l.set j x).length (bcells (l.set j x))
  rw [List.length_set]
  have e : bcells (l.set j x) = (bcells l).set j (.int .u8 (x.toNat : Int)) := by simp [bcells, List.map_set]
  rw [e]
  exact this.1
def Box (w : World) (P : Nat) (x y : Int) : Prop := w.heap[P]? = some (.cells #[.int .i64 x, .int .i64 y] 53)
theorem box_new (w : World) (x y : Int) : Box (w.alloc (.cells #[.int .i64 x, .int .i64 y] 53)) w.heap.size x y := by
  show (w.heap.push _)[w.heap.size]? = _
  simp
theorem Box.cells {w : World} {P : Nat} {x y : Int} (h : Box w P x y) : w.cell? ⟨P, 0, none⟩ = some (.int .i64 x) ∧ w.cell? ⟨P, 1, none⟩ = some (.int .i64 y) ∧ P < w.heap.size := by
  refine ⟨by simp [World.cell?, show w.heap[P]? = _ from h], by simp [World.cell?, show w.heap[P]? = _ from h], ?_⟩
  have h' : w.heap[P]? = some _ := h
  exact (Array.getElem?_eq_some_iff.1 h').1
theorem Box.ne {w : World} {P b : Nat} {x y : Int} {v : Value} {l : List UInt8} (h : Box w P x y) (hy : Bys w b v l) (k : Nat) (hk : v.ownBlock = some k) : k ≠ P := by
  rintro rfl
  rcases hy.2 with ⟨e, _⟩ | ⟨g, cap, cur, e, _, hg, _⟩
  · subst e; simp [Value.ownBlock] at hk
  · subst e
    simp only [Value.ownBlock, Option.some.injEq] at hk
    subst hk
    have h' : w.heap[g]? = some (.cells #[.int .i64 x, .int .i64 y] 53) := h
    rw [h'] at hg
    simp at hg
theorem Box.set {w : World} {P b o : Nat} {x y : Int} (h : Box w P x y) (hb : b ≠ P) (u : Value) : Box (w.setCell ⟨b, o, none⟩ u) P x y := by
  show (w.setCell ⟨b, o, none⟩ u).heap[P]? = _
  rw [Below.heap_setCell w ⟨b, o, none⟩ u P (fun e => hb e.symm)]
  exact h
theorem Box.drew {w : World} {P : Nat} {x y : Int} (h : Box w P x y) : Box w.drew P x y := h
theorem Box.alloc {w : World} {P : Nat} {x y : Int} (h : Box w P x y) (o : Obj) : Box (w.alloc o) P x y := by
  show (w.alloc o).heap[P]? = _
  rw [Below.heap_alloc w o P h.cells.2.2]
  exact h
theorem Box.grown {w w' : World} {P b : Nat} {x y : Int} {v : Value} {l : List UInt8} (h : Box w P x y) (hy : Bys w b v l) (hg : w.grownBy w' v.ownBlock) : Box w' P x y := by
  show w'.heap[P]? = _
  rw [hg.block P h.cells.2.2 (fun e => h.ne hy P e.symm rfl)]
  exact h
def Keep5 (b : Nat) (w w' : World) : Prop := w.heap.size ≤ w'.heap.size ∧ ∀ k, k < w.heap.size → k ≠ b → (∀ cur fr, w.heap[k]? ≠ some (.cells cur 5 fr)) → w'.heap[k]? = w.heap[k]?
theorem Keep5.refl (b : Nat) (w : World) : Keep5 b w w := ⟨Nat.le_refl _, fun _ _ _ _ => rfl⟩
theorem Keep5.trans {b : Nat} {w w1 w2 : World} (h : Keep5 b w w1) (k : Keep5 b w1 w2) : Keep5 b w w2 :=
  ⟨Nat.le_trans h.1 k.1, fun j hj hb ht => by
    have e := h.2 j hj hb ht
    rw [k.2 j (Nat.lt_of_lt_of_le hj h.1) hb (fun cur fr => by rw [e]; exact ht cur fr), e]⟩
theorem Keep5.drew {b : Nat} {w w' : World} (h : Keep5 b w w') : Keep5 b w w'.drew := h
theorem Keep5.alloc {b : Nat} {w w' : World} (h : Keep5 b w w') (o : Obj) : Keep5 b w (w'.alloc o) :=
  h.trans ⟨by simp, fun j hj _ _ => Below.heap_alloc w' o j hj⟩
theorem Keep5.set {b o : Nat} {w w' : World} (h : Keep5 b w w') (u : Value) : Keep5 b w (w'.setCell ⟨b, o, none⟩ u) :=
  h.trans ⟨by simp, fun j _ hb _ => Below.heap_setCell w' ⟨b, o, none⟩ u j hb⟩
theorem Keep5.setRow {b c g j cap : Nat} {w w' : World} {l : List UInt8} (h : Keep5 b w w') (hy : Bys w' c (.slice (some ⟨g, 0, none⟩) l.length cap) l) (u : Value) : Keep5 b w (w'.setCell ⟨g, j, none⟩ u) := by
  refine h.trans ⟨by simp, fun k _ _ ht => ?_⟩
  by_cases e : k = g
  · subst e
    rcases hy.2 with ⟨e, _⟩ | ⟨g', cap', cur, e, _, hg, _⟩
    · simp at e
    · simp only [Value.slice.injEq, Option.some.injEq, Addr.mk.injEq, and_true, true_and] at e
      obtain ⟨rfl, _⟩ := e
      exact absurd hg (ht cur (0, 0))
  · exact Below.heap_setCell w' ⟨g, j, none⟩ u k e
theorem Keep5.grown {b c : Nat} {w w' w'' : World} {v : Value} {l : List UInt8} (h : Keep5 b w w') (hy : Bys w' c v l) (hg : w'.grownBy w'' v.ownBlock) : Keep5 b w w'' := by
  refine h.trans ⟨hg.size, fun k hk _ ht => ?_⟩
  refine hg.block k hk (fun e => ?_)
  rcases hy.2 with ⟨e', _⟩ | ⟨g', cap', cur, e', _, hg', _⟩
  · subst e'; simp [Value.ownBlock] at e
  · subst e'
    simp only [Value.ownBlock, Option.some.injEq] at e
    subst e
    exact ht cur (0, 0) hg'
end Go.Proofs.YtpmidjddjdejmaaGreatDoor
namespace Go.Proofs.YtpmidjddjdejmaaGreatDoor
open Go.RowKit Corb
def KB (b : Nat) (w w' : World) : Prop := Below b w w' ∧ Keep5 b w w'
theorem KB.refl (b : Nat) (w : World) : KB b w w := ⟨Below.refl _ _, Keep5.refl _ _⟩
theorem KB.trans {b : Nat} {w w1 w2 : World} (h : KB b w w1) (k : KB b w1 w2) : KB b w w2 := ⟨h.1.trans k.1, h.2.trans k.2⟩
theorem KB.drew {b : Nat} {w w' : World} (h : KB b w w') : KB b w w'.drew := ⟨h.1.drew, h.2.drew⟩
theorem KB.set {b : Nat} {w w' : World} (h : KB b w w') (o : Nat) (u : Value) : KB b w (w'.setCell ⟨b, o, none⟩ u) := ⟨below_set h.1 (Nat.le_refl _) u, h.2.set u⟩
theorem KB.below {b : Nat} {w w' w'' : World} (h : KB b w w') (hb : Below w'.heap.size w' w'') (hl : b ≤ w'.heap.size) : KB b w w'' :=
  ⟨h.1.trans (hb.mono hl), h.2.trans ⟨hb.size, fun k hk _ _ => hb.block k hk⟩⟩
theorem push_afterK {w W2 WA w' : World} {b : Nat} {v v' v1 v2 : Value} {l : List UInt8} {x : UInt8} (T2 : Three W2 b v v1 v2) (Y2 : Bys W2 b v l) (B2 : KB b w W2)
    (hWA : Below (b + 1) W2 WA) (hKA : Keep5 b W2 WA) (hYA : Bys WA b v l) (hown : w'.ownsRow (b + 1) 5 1 v' (l.length + 1) (bcells l ++ [.int .u8 (x.toNat : Int)])) (hgrow : WA.grownBy w' v.ownBlock) :
    (∃ g cap, v' = .slice (some ⟨g, 0, none⟩) (l.length + 1) cap) ∧ Three w' b v v1 v2 ∧ Bys w' b v' (l ++ [x]) ∧ KB b w w' := by
  obtain ⟨h1, h2, h3, h4⟩ := push_after T2 Y2 B2.1 hWA hown hgrow
  exact ⟨h1, h2, h3, h4, B2.2.trans (hKA.grown hYA hgrow)⟩
set_option maxHeartbeats 3200000 in
theorem put_anyK (b V m : Nat) (num bits : Int) (w : World) (h : Out w b V m) (n0 : 0 ≤ num) (n1 : num < 65536) (b0 : 0 ≤ bits) (b1 : bits ≤ 16) (hm : m ≤ 100000) :
    Calls Tryz.prog 70 #[.pointer (some ⟨b, 0, none⟩), .int .i64 num, .int .i64 bits] w fun e w' => e = .returned (.tuple #[]) ∧
      Out w' b (V + num.toNat % p2 bits.toNat * p2 m) (m + bits.toNat) ∧ KB b w w' := by
  obtain ⟨n, rfl⟩ := Int.eq_ofNat_of_zero_le n0
  obtain ⟨c, rfl⟩ := Int.eq_ofNat_of_zero_le b0
  rw [Int.toNat_natCast, Int.toNat_natCast]
  obtain ⟨i0, hi, hz0, hz1, hz2⟩ := info_parts Tryz.infoU8
  go_enter Tryz.func70, Tryz.ntmps70
  go_wp2
  go_loopw [1, 6] (fun x i wr => ∃ k : Nat, k ≤ c ∧ i = .int .i64 k ∧ x = .int .i64 (n / p2 k : Nat) ∧ Out wr b (V + n % p2 k * p2 m) (m + k) ∧ KB b w wr) (fun _ i _ => c - (intOf i).toNat)
  case atStart => exact ⟨0, Nat.zero_le _, rfl, by simp [p2], by simpa [p2, Nat.mod_one] using h, KB.refl _ _⟩
  case round =>
    obtain ⟨k, hk, rfl, rfl, hout, hbel⟩ := hrel
    by_cases hlt : k < c
    · have hval := hide (put_val V n k m)
      have hhalf := hide (half_pow n k)
      have hnk : n / p2 k ≤ n := Nat.div_le_self _ _
      obtain ⟨hV, v, htr, hby⟩ := hout
      obtain ⟨sa, scap, rfl⟩ := hby.form
      have hlb := last_bd (V + n % p2 k * p2 m) (m + k) hV
      generalize V + n % p2 k * p2 m = V1 at *
      generalize hm1 : m + k = m1 at *
      have hx : n / p2 k % 2 ≤ 1 := by omega
      have hxI : ((n / p2 k : Nat) : Int) % 2 = ((n / p2 k % 2 : Nat) : Int) := by omega
      have hnkI : ((n / p2 k : Nat) : Int) < 65536 := by omega
      have hp7 : p2 (m1 % 8) ≤ 128 := p2_le (m1 % 8) 7 (by omega)
      have hXle : n / p2 k % 2 * p2 (m1 % 8) ≤ 1 * p2 (m1 % 8) := Nat.mul_le_mul_right _ hx
      have hmul : ((n / p2 k % 2 : Nat) : Int) * ((p2 (m1 % 8) : Nat) : Int) = ((n / p2 k % 2 * p2 (m1 % 8) : Nat) : Int) := by simp
      have hroom := out_room V1 m1 (n / p2 k % 2) hV hx
      have hfull := out_full V1 m1 (n / p2 k % 2) hV hx
      have hr8 : m1 % 8 < 8 := Nat.mod_lt _ (by omega)
      have hm1le : m1 ≤ 100016 := by omega
      have hbl : (leS (m1 / 8) V1).length = m1 / 8 := leS_len _ _
      generalize n / p2 k = nk at *
      generalize hxx : nk % 2 = x at *
      generalize hLL : V1 / p2 (8 * (m1 / 8)) = L at *
      generalize hrr : m1 % 8 = r at *
      generalize hPP : p2 r = P at *
      generalize hXX : x * P = X at *
      have HPP := hide hPP
      have Hm1 := hide hm1
      have Hrr := hide hrr
      have Hroom := hide hroom
      have Hfull := hide hfull
      have Hx := hide hxx
      clear hm1 hLL hrr hPP hXX hV hroom hfull hxx hx hnk
      obtain ⟨k0, k1, k2, f0, f1, f2, hbw⟩ := htr
      have htr : Hid (Three wr b _ _ _) := ⟨k0, k1, k2, f0, f1, f2, hbw⟩
      have hrI : (r : Int) < 8 := by omega
      have hLI : (L : Int) < 128 := by omega
      have hXI : (X : Int) ≤ 128 := by omega
      have hkc : (k : Int) < (c : Int) := by omega
      have Hr8 := hide hr8
      have Hm1le := hide hm1le
      have Hk := hide hk
      have HLX : Hid (IntKind.i64.wrap ((L : Int) + IntKind.i64.wrap ((nk : Int).tmod 2 * (P : Int))) = (L : Int) + (X : Int)) := by
        show IntKind.i64.wrap ((L : Int) + IntKind.i64.wrap ((nk : Int).tmod 2 * (P : Int))) = (L : Int) + (X : Int)
        rw [Int.tmod_eq_emod_of_nonneg (by omega), hxI, hmul, wrap_id (X : Int) (by omega) (by omega), wrap_id ((L : Int) + (X : Int)) (by omega) (by omega)]
      clear hr8 hm1le hp7 hXle hlb hk hm
      go_wp2_with fail
      go_cut [] from 7 to 62 (fun wc => wc = (wr.setCell ⟨b, 1, none⟩ (.int .i64 ((L : Int) + (X : Int)))).drew)
      case first =>
        go_region_with (go_at_call 104; refine (l1Pow_any _ _ (by omega)).mono ?_; rintro e w' ⟨rfl, rfl⟩; rw [Int.toNat_natCast, unhide HPP])
        all_goals
          go_wp2_with fail
          go_meet
          exact by rw [unhide HLX]
      case rest =>
        have T1 := ((unhide htr).set1 (.int .i64 ((L : Int) + (X : Int)))).drew
        have Y1 := (hby.set (o := 1) (.int .i64 ((L : Int) + (X : Int)))).drew
        have B1 : KB b w _ := (hbel.set 1 (.int .i64 ((L : Int) + (X : Int)))).drew
        rw [← hcut] at T1 Y1 B1
        clear hcut hby hbel htr k0 k1 k2 f0 f1 f2 hbw hmul hxI
        have T1' := hide T1
        obtain ⟨k0, k1, k2, f0, f1, f2, hbw⟩ := T1
        by_cases hr7 : (r : Int) = 7
        · have hr7N : r = 7 := by omega
          obtain ⟨o1, o2, o3, o4⟩ := unhide Hfull hr7N
          have O1 := hide o1
          have O2 := hide o2
          have O3 := hide o3
          have O4 := hide o4
          have hLX : L + X < 256 := by omega
          have hbv := hide (byte_val (L + X) hLX)
          have hbI : IntKind.u8.wrap ((L : Int) + (X : Int)) = (L : Int) + (X : Int) := by
            rw [IntKind.wrap_u8']; omega
          subst hr7N
          clear o1 o2 o3 o4 hr7 hLX
          have T2 := (unhide T1').set2 (.int .i64 8)
          have Y2 := Y1.set (o := 2) (.int .i64 8)
          have B2 : KB b w _ := B1.set 2 (.int .i64 8)
          have hlen := hide hbl
          clear hbl
          go_wp2_with fail
          generalize wc.setCell ⟨b, 2, none⟩ (.int .i64 8) = W2 at *
          clear k0 k1 k2 f0 f1 f2 T1' Y1 B1
          have T2' := hide T2
          obtain ⟨k0, k1, k2, f0, f1, f2, hb2⟩ := T2
          have hbv' : Hid (((UInt8.ofNat (L + X)).toNat : Int) = (L : Int) + (X : Int)) := by
            show ((UInt8.ofNat (L + X)).toNat : Int) = (L : Int) + (X : Int)
            rw [unhide hbv]; omega
          have hl2 : (leS (m1 / 8) V1).length ≤ 20000 := by have := unhide hlen; have := unhide Hm1le; omega
          have Hl2 := hide hl2
          clear hl2
          go_cut [] from 7 to 62 (fun wc2 => ∃ v', Three wc2 b v' (.int .i64 ((L : Int) + (X : Int))) (.int .i64 8) ∧ Bys wc2 b v' (leS (m1 / 8) V1 ++ [UInt8.ofNat (L + X)]) ∧ KB b w wc2)
          case first =>
            go_region_law (refine step_append_own rfl (.tmp 47) (.tmp 53) 22 rfl (b + 1) 5 i0 (.int .u8 0) 1 1 Tryz.underlying22 hi hz0 hz1 hz2 rfl (by decide) _ _ _ (by simp [Act.eval]) (Y2.alloc _) ⟨W2.heap.size, 0, none⟩ 1 1 [.int .u8 ((L : Int) + (X : Int))] (by simp [Act.eval]) rfl (by intro j u hj; match j, hj with | 0, hj => simp at hj; subst hj; simp [Addr.add]) (by intro u hu; simp at hu; subst hu; rfl) (by have := unhide Hl2; unfold maxLen; omega) (by have := unhide Hl2; omega) (by simp; omega) ?_; intro v' w' hown hgrow hnil; clear hnil; rw [← unhide hbv'] at hown; obtain ⟨⟨g', cap', rfl⟩, T3, Y3, B3⟩ := push_afterK (unhide T2') Y2 B2 (by first | exact (Below.refl _ _).alloc (by omega) _ | exact ((Below.refl _ _).alloc (by omega) _).drew) (by first | exact (Keep5.refl _ _).alloc _ | exact ((Keep5.refl _ _).alloc _).drew) (by first | exact Y2.alloc _ | exact (Y2.alloc _).drew) hown hgrow; clear hown hgrow; have T3' := hide T3; obtain ⟨q0, q1, q2, e0, e1, e2, hb3⟩ := T3)
            all_goals
              go_wp2_with fail
              go_meet
              exact ⟨_, (unhide T3').set0 _, Y3.set _, B3.set _ _⟩
          case rest =>
            obtain ⟨v', T4, Y4, B4⟩ := hcut
            clear k0 k1 k2 f0 f1 f2 T2' Y2 B2 hb2
            obtain ⟨va, vc, rfl⟩ := Y4.form
            have T4' := hide T4
            obtain ⟨k0, k1, k2, f0, f1, f2, hb4⟩ := T4
            go_wp2
            go_roundw
            case rel =>
              refine ⟨k + 1, by have := unhide Hk; omega, by go_num, by rw [← unhide hhalf]; go_num, ?_, (B4.set _ _).set _ _⟩
              rw [unhide hval, show m + (k + 1) = m1 + 1 by have := unhide Hm1; omega]
              refine ⟨unhide O1, .slice va (leS (m1 / 8) V1 ++ [UInt8.ofNat (L + X)]).length vc, ?_, ?_⟩
              · rw [unhide O2, unhide O3]
                exact ((unhide T4').set1 _).set2 _
              · rw [unhide O4]
                exact (Y4.set _).set _
            case measure => simp [intOf]; omega
        · have hr8f : ((r : Int) + 1 == 8) = false := by simp; omega
          have hlt7 : r < 7 := by omega
          obtain ⟨o1, o2, o3⟩ := unhide Hroom hlt7
          have O1 := hide o1
          have O2 := hide o2
          have O3 := hide o3
          have hm18 : Hid ((m1 + 1) % 8 = r + 1) := by show (m1 + 1) % 8 = r + 1; have := unhide Hrr; omega
          clear o1 o2 o3 hlt7 hr7
          go_wp2
          go_roundw
          case rel =>
            refine ⟨k + 1, by have := unhide Hk; omega, by go_num, by rw [← unhide hhalf]; go_num, ?_, B1.set _ _⟩
            rw [unhide hval, show m + (k + 1) = m1 + 1 by have := unhide Hm1; omega]
            refine ⟨unhide O1, .slice sa (leS (m1 / 8) V1).length scap, ?_, ?_⟩
            · rw [unhide O2, unhide hm18]
              exact (unhide T1').set2 _
            · rw [unhide O3]
              exact Y1.set _
          case measure => simp [intOf]; omega
    · have hkc : k = c := by omega
      subst hkc
      go_wp2
      go_end0
      exact ⟨rfl, hout, hbel⟩
end Go.Proofs.YtpmidjddjdejmaaGreatDoor
namespace Go.Proofs.YtpmidjddjdejmaaGreatDoor
open Go.RowKit Corb
theorem Two.other {w : World} {b g o : Nat} {v0 v1 : Value} (h : Two w b v0 v1) (hg : g ≠ b) (u : Value) : Two (w.setCell ⟨g, o, none⟩ u) b v0 v1 := by
  obtain ⟨c0, c1, f0, f1, hb⟩ := h
  refine ⟨?_, ?_, by simpa using f0, by simpa using f1, by simpa using hb⟩
  · rw [World.cell?_setCell_other _ _ _ _ (by simp only [ne_eq, Addr.mk.injEq]; omega)]; exact c0
  · rw [World.cell?_setCell_other _ _ _ _ (by simp only [ne_eq, Addr.mk.injEq]; omega)]; exact c1
end Go.Proofs.YtpmidjddjdejmaaGreatDoor
namespace Go.Proofs.YtpmidjddjdejmaaGreatDoor
open Go.RowKit Corb
def Ints (w : World) (b : Nat) (v : Value) (xs : List Int) : Prop := w.ownsRow (b + 1) 3 1 v xs.length (xs.map (Value.int .i64))
theorem Ints.keep {w w' : World} {b : Nat} {v : Value} {xs : List Int} (h : Ints w b v xs) (hk : Keep5 b w w') : Ints w' b v xs := by
  refine ⟨h.1, ?_⟩
  rcases h.2 with e | ⟨g, cap, cur, e, hb, hg, hr⟩
  · exact .inl e
  · refine .inr ⟨g, cap, cur, e, hb, ?_, hr⟩
    rw [hk.2 g (Array.getElem?_eq_some_iff.1 hg).1 (by omega) (fun cur' fr => by rw [hg]; simp)]
    exact hg
theorem Bys.other {w w' : World} {b c : Nat} {v o : Value} {l : List UInt8} {xs : List Int} (h : Bys w b v l) (ho : Ints w c o xs) (hg : w.grownBy w' o.ownBlock) : Bys w' b v l := by
  refine World.ownsRow.kept h hg ?_
  cases hv : v.ownBlock with
  | none => exact .inl rfl
  | some k =>
    refine .inr (fun e => ?_)
    rcases h.2 with ⟨e1, _⟩ | ⟨g, cap, cur, e1, _, hg1, _⟩
    · subst e1; simp [Value.ownBlock] at hv
    · rcases ho.2 with ⟨e2, _⟩ | ⟨g2, cap2, cur2, e2, _, hg2, _⟩
      · subst e2; simp [Value.ownBlock] at e
      · subst e1 e2
        simp only [Value.ownBlock, Option.some.injEq] at hv e
        subst hv
        subst e
        rw [hg1] at hg2
        simp at hg2
end Go.Proofs.YtpmidjddjdejmaaGreatDoor
namespace Go.Proofs.YtpmidjddjdejmaaGreatDoor
open Go.RowKit Corb
set_option maxHeartbeats 800000 in
theorem wholeOut_any (b V m : Nat) (w : World) (h : Out w b V m) (hm : m ≤ 90000) :
    Calls Tryz.prog 73 #[.pointer (some ⟨b, 0, none⟩)] w fun e w' => e = .returned (.tuple #[]) ∧ Out w' b V (8 * ((m + 7) / 8)) ∧ Below b w w' := by
  have h' := hide h
  obtain ⟨hV, v, ht, hy⟩ := h
  obtain ⟨k0, k1, k2, f0, f1, f2, hbw⟩ := ht
  by_cases hr : m % 8 = 0
  · have hr0 : ((m % 8 : Nat) : Int) = 0 := by omega
    have he : Hid (8 * ((m + 7) / 8) = m) := by show _ = _; omega
    clear hr hV hy k0 k1 hm
    go_enter Tryz.func73, Tryz.ntmps73
    go_wp2
    go_end0
    exact ⟨rfl, by rw [unhide he]; exact unhide h', Below.refl _ _⟩
  · have hr0 : (0 : Int) < ((m % 8 : Nat) : Int) := by omega
    have hr1 : ((m % 8 : Nat) : Int) < 8 := by omega
    have hfin : Hid (m + (8 - m % 8) = 8 * ((m + 7) / 8)) := by show _ = _; omega
    have htn : Hid ((8 - ((m % 8 : Nat) : Int)).toNat = 8 - m % 8) := by show (8 - ((m % 8 : Nat) : Int)).toNat = 8 - m % 8; omega
    have hm' := hide hm
    clear hr hV hy k0 k1 hm
    generalize ((m % 8 : Nat) : Int) = r at *
    go_enter Tryz.func73, Tryz.ntmps73
    go_wp2_with fail
    refine (put_any b V m 0 (8 - r) _ (unhide h') (by omega) (by omega) (by omega) (by omega) (by have := unhide hm'; omega)).mono ?_
    rintro e w1 ⟨rfl, ho, hb⟩
    rw [unhide htn] at ho
    simp only [Int.toNat_zero, Nat.zero_mod, Nat.zero_mul, Nat.add_zero] at ho
    rw [unhide hfin] at ho
    have HO := hide ho
    clear ho
    go_wp2
    go_end0
    exact ⟨rfl, unhide HO, hb⟩
theorem cat_str (l : List UInt8) (s : ByteArray) : (⟨l.toArray⟩ : ByteArray) ++ s = ⟨(l ++ s.data.toList).toArray⟩ := by
  apply ByteArray.ext
  rw [ByteArray.data_append]
  apply Array.ext'
  simp
set_option maxHeartbeats 1600000 in
theorem l5Store_any (s : ByteArray) (w : World) (hs : s.size ≤ 300) :
    Calls Tryz.prog 39 #[.string s] w fun e w' => e = .returned (.string ⟨(leS 5 (headV s.size) ++ s.data.toList).toArray⟩) ∧ Below w.heap.size w w' := by
  have hsI : (s.size : Int) ≤ 300 := by omega
  have h0 := hide (out_new w 110)
  have hB0 : Hid (Below w.heap.size w (w.alloc (.cells #[.slice none 0 0, .int .i64 0, .int .i64 0] 110))) := (Below.refl _ _).alloc (Nat.le_refl _) _
  have HS := hide hs
  clear hs
  go_enter Tryz.func39, Tryz.ntmps39
  go_wp2_with fail
  refine (put_any _ 0 0 1 1 _ (unhide h0) (by omega) (by omega) (by omega) (by omega) (by omega)).mono ?_
  rintro e x1 ⟨rfl, h1, hb1⟩
  go_wp2_with fail
  refine (put_any _ _ _ 0 2 _ h1 (by omega) (by omega) (by omega) (by omega) (by omega)).mono ?_
  rintro e x2 ⟨rfl, h2, hb2⟩
  have h2' : Out x2 w.heap.size 1 3 := h2
  clear h1 h2
  go_wp2_with fail
  refine (wholeOut_any _ _ _ _ h2' (by omega)).mono ?_
  rintro e x3 ⟨rfl, h3, hb3⟩
  have h3' : Out x3 w.heap.size 1 8 := h3
  have hB3 := hide (((unhide hB0).trans hb1).trans (hb2.trans hb3))
  clear h2' h3 hb1 hb2 hb3
  go_wp2_with fail
  refine (put_any _ _ _ (s.size : Int) 16 _ h3' (by omega) (by omega) (by omega) (by omega) (by omega)).mono ?_
  rintro e x4 ⟨rfl, h4, hb4⟩
  clear h3'
  go_wp2_with fail
  refine (put_any _ _ _ (65535 - (s.size : Int)) 16 _ h4 (by omega) (by omega) (by omega) (by omega) (by omega)).mono ?_
  rintro e x5 ⟨rfl, h5, hb5⟩
  have hV : 1 + ((s.size : Int).toNat % p2 (16 : Int).toNat * p2 8) + ((65535 - (s.size : Int)).toNat % p2 (16 : Int).toNat * p2 (8 + (16 : Int).toNat)) = headV s.size := by
    have e16 : p2 (16 : Int).toNat = 65536 := by decide
    have e8 : p2 8 = 256 := by decide
    have e24 : p2 (8 + (16 : Int).toNat) = 16777216 := by decide
    rw [e16, e8, e24]
    unfold headV
    have := unhide HS
    rw [Int.toNat_natCast, show (65535 - (s.size : Int)).toNat = 65535 - s.size by omega, Nat.mod_eq_of_lt (by omega), Nat.mod_eq_of_lt (by omega)]
  have h5' : Out x5 w.heap.size (headV s.size) 40 := by rw [← hV]; exact h5
  obtain ⟨_, v, T, Y⟩ := h5'
  have hcv := conv_bytes Y
  have hB5 := hide ((unhide hB3).trans (hb4.trans hb5))
  obtain ⟨k0, k1, k2, f0, f1, f2, hbw⟩ := T
  have hle : leS (40 / 8) (headV s.size) = leS 5 (headV s.size) := rfl
  rw [hle] at hcv
  have HC := hide (cat_str (leS 5 (headV s.size)) s)
  clear h4 h5 hV hb4 hb5 Y k1 k2 hle
  have hPl := leS_len 5 (headV s.size)
  generalize hP : leS 5 (headV s.size) = P at hcv HC hPl
  have HP := hide hP
  have hPs : ¬ 9223372036854775807 < P.length + s.size := by have := unhide HS; omega
  clear hP hPl
  go_wp2
  go_ret
  exact ⟨by rw [unhide HP, ← unhide HC]; rfl, unhide hB5⟩
end Go.Proofs.YtpmidjddjdejmaaGreatDoor
namespace Go.Proofs.YtpmidjddjdejmaaGreatDoor
open Go.RowKit Corb
attribute [local go_sem ↓] Go.wp_at_zero Go.wp_at_succ
theorem num_bd (V p k : Nat) (h : k ≤ 16) : V / 2 ^ p % 2 ^ k < 65536 := by
  have h1 : V / 2 ^ p % 2 ^ k < 2 ^ k := Nat.mod_lt _ (Nat.two_pow_pos k)
  have h2 : 2 ^ k ≤ 2 ^ 16 := Nat.pow_le_pow_right (by omega) h
  have h3 : (2 : Nat) ^ 16 = 65536 := by decide
  omega
theorem pow_bdN (k : Nat) (h : k ≤ 16) : p2 k ≤ 65536 := by
  have h2 : 2 ^ k ≤ 2 ^ 16 := Nat.pow_le_pow_right (by omega) h
  have h3 : (2 : Nat) ^ 16 = 65536 := by decide
  have h4 : p2 k = 2 ^ k := rfl
  omega
set_option maxHeartbeats 800000 in
theorem srcNum_any (b p c : Nat) (s : ByteArray) (w : World) (h : Rdr w b s p) (hs : s.size ≤ 2000000) (hc : c ≤ 16) :
    Calls Tryz.prog 116 #[.pointer (some ⟨b, 0, none⟩), .int .i64 (c : Int)] w fun e w' => e = .returned (.int .i64 (numB s / 2 ^ p % 2 ^ c : Nat)) ∧ Rdr w' b s (p + c) ∧ Keep1 b w w' := by
  have Hs := hide hs
  have hc' : (c : Int) ≤ 16 := by omega
  have Hc := hide hc
  clear hs hc
  go_enter Tryz.func116, Tryz.ntmps116
  go_wp2_with fail
  go_loopw [5, 6] (fun n i wr => ∃ k : Nat, k ≤ c ∧ i = .int .i64 k ∧ n = .int .i64 (numB s / 2 ^ p % 2 ^ k : Nat) ∧ Rdr wr b s (p + k) ∧ Keep1 b w wr) (fun _ i _ => c - (intOf i).toNat)
  case atStart => exact ⟨0, Nat.zero_le _, rfl, by simp [Nat.mod_one], h, Keep1.refl _ _⟩
  case round =>
    obtain ⟨k, hk, rfl, rfl, hr, hbel⟩ := hrel
    clear h
    have Hk := hide hk
    by_cases hlt : k < c
    · have hkc : (k : Int) < (c : Int) := by omega
      have hk16 : k ≤ 16 := by have := unhide Hc; omega
      have hst : Hid (numB s / 2 ^ p % 2 ^ (k + 1) = numB s / 2 ^ p % 2 ^ k + numB s / 2 ^ (p + k) % 2 * p2 k) := num_step (numB s) p k
      have hn1 := num_bd (numB s) p k hk16
      have hx : numB s / 2 ^ (p + k) % 2 ≤ 1 := by omega
      have hpw := pow_bdN k hk16
      have hbit := hide (srcBit_any b (p + k) s wr hr (unhide Hs))
      have HPW := hide (fun W => powR k (p2 k) W (by omega) rfl)
      generalize numB s / 2 ^ p % 2 ^ k = n at *
      generalize numB s / 2 ^ (p + k) % 2 = x at *
      generalize p2 k = PW at *
      have hmul : x * PW ≤ 65536 := by rcases (show x = 0 ∨ x = 1 by omega) with e | e <;> subst e <;> omega
      have e1 : IntKind.i64.wrap ((x : Int) * (PW : Int)) = ((x * PW : Nat) : Int) := by rw [← Int.natCast_mul]; exact wrap_id _ (by omega) (by omega)
      have e1' : ((x : Int) * (PW : Int)) = ((x * PW : Nat) : Int) := by rw [← Int.natCast_mul]
      have hn1' : (n : Int) < 65536 := by omega
      have hm1' : ((x * PW : Nat) : Int) ≤ 65536 := by omega
      have hm0' : (0 : Int) ≤ ((x * PW : Nat) : Int) := by omega
      generalize hM : x * PW = M at *
      have HM := hide hM
      clear hM hk16 hx hpw hn1 hmul hk hr
      go_wp2_with fail
      refine (unhide hbit).mono ?_
      rintro e x1 ⟨rfl, hr1, hb1⟩
      go_wp2_with fail
      refine (unhide HPW _).mono ?_
      rintro e x2 ⟨rfl, rfl⟩
      go_wp2
      go_roundw
      case rel => exact ⟨k + 1, by omega, by go_num, by rw [unhide hst]; go_num, hr1, hbel.trans hb1⟩
      case measure => simp [intOf]; omega
    · obtain rfl : k = c := by have := unhide Hk; omega
      go_wp2
      go_ret
      exact ⟨rfl, hr, hbel⟩
theorem rest_step (V p j : Nat) : (V / 2 ^ p % 2 ^ (j + 1) = 0) ↔ (V / 2 ^ p % 2 ^ j = 0 ∧ V / 2 ^ (p + j) % 2 = 0) := by
  rw [num_step]
  have := Nat.two_pow_pos j
  constructor
  · intro h
    have h1 := Nat.eq_zero_of_add_eq_zero_right h
    have h2 := Nat.eq_zero_of_add_eq_zero_left h
    rcases Nat.mul_eq_zero.1 h2 with h3 | h3
    · exact ⟨h1, h3⟩
    · omega
  · rintro ⟨h1, h2⟩
    rw [h1, h2]
    simp
set_option maxHeartbeats 800000 in
theorem srcWhole_any (b p : Nat) (s : ByteArray) (w : World) (h : Rdr w b s p) (hs : s.size ≤ 2000000) (hp : p ≤ 8 * s.size) :
    Calls Tryz.prog 81 #[.pointer (some ⟨b, 0, none⟩)] w fun e w' => e = .returned (.bool (decide (numB s / 2 ^ p % 2 ^ ((8 - p % 8) % 8) = 0))) ∧ Rdr w' b s (p + (8 - p % 8) % 8) ∧ Keep1 b w w' := by
  have Hs := hide hs
  have hp7 : (8 - p % 8) % 8 ≤ 7 := by omega
  have hpm : (p + (8 - p % 8) % 8) % 8 = 0 := by omega
  have hpl : p + (8 - p % 8) % 8 ≤ 8 * s.size := by omega
  have hmin : ∀ j, j < (8 - p % 8) % 8 → (p + j) % 8 ≠ 0 := by omega
  have hsI : (s.size : Int) ≤ 2000000 := by omega
  generalize (8 - p % 8) % 8 = c at *
  have Hp := hide hpl
  clear hs hp hpl
  go_enter Tryz.func81, Tryz.ntmps81
  go_wp2_with fail
  go_loopw [3] (fun n wr => ∃ k m : Nat, k ≤ c ∧ n = .int .i64 (m : Nat) ∧ m ≤ k ∧ (m = 0 ↔ numB s / 2 ^ p % 2 ^ k = 0) ∧ Rdr wr b s (p + k) ∧ Keep1 b w wr) (fun _ wr => c + p - (match wr.cell? ⟨b, 1, none⟩ with | some (.int _ i) => i.toNat | _ => 0))
  case atStart => exact ⟨0, 0, Nat.zero_le _, rfl, Nat.le_refl _, by simp [Nat.mod_one], h, Keep1.refl _ _⟩
  case round =>
    obtain ⟨k, m, hk, rfl, hmk, hm0, hr, hbel⟩ := hrel
    clear h
    have h3 := hr.at (by have := unhide Hp; omega)
    obtain ⟨c0, c1, c2, f0, f1, f2, hb3⟩ := h3
    have Hk := hide hk
    have Hm0 := hide hm0
    have hpk : ((p + k : Nat) : Int) ≤ 16000000 := by have := unhide Hp; omega
    clear hm0
    by_cases hlt : k < c
    · have hne : ¬ ((p + k : Nat) : Int) % 8 = 0 := by have := hmin k hlt; omega
      have hst := hide (rest_step (numB s) p k)
      have hx : numB s / 2 ^ (p + k) % 2 ≤ 1 := by omega
      have hbit := hide (srcBit_any b (p + k) s wr hr (unhide Hs))
      generalize numB s / 2 ^ (p + k) % 2 = x at *
      have hxI : (x : Int) ≤ 1 := by omega
      have hmI : (m : Int) ≤ 7 := by omega
      have HX := hide hx
      have Hmk := hide hmk
      have Hlt := hide hlt
      have Hpk := hide (show p + k < 8 * s.size by have := unhide Hp; omega)
      clear hmin hx hk hmk hlt hr hpm hp7
      generalize hPK : p + k = pk at *
      have HPK := hide hPK
      clear hPK
      go_wp2_with fail
      refine (unhide hbit).mono ?_
      rintro e x1 ⟨rfl, hr1, hb1⟩
      go_wp2
      go_roundw
      case rel => exact ⟨k + 1, m + x, unhide Hlt, by go_num, by have := unhide Hmk; have := unhide HX; omega, by rw [unhide hst, ← unhide Hm0]; omega, by rw [← unhide HPK] at hr1; exact hr1, hbel.trans hb1⟩
      case measure =>
        have h1 := (hr1.at (by have := unhide Hpk; omega)).2.1
        rw [h1, c1]
        have := unhide HPK; have := unhide Hlt
        simp
        omega
    · obtain rfl : k = c := by have := unhide Hk; omega
      have he : ((p + k : Nat) : Int) % 8 = 0 := by omega
      generalize hPK : p + k = pk at *
      go_wp2
      go_ret
      refine ⟨ret_bool ?_, by rw [hPK]; exact hr, hbel⟩
      rw [show decide (numB s / 2 ^ p % 2 ^ k = 0) = decide (m = 0) from decide_eq_decide.2 (unhide Hm0).symm]
      rcases Nat.eq_zero_or_pos m with h0 | h0
      · subst h0; rfl
      · rw [decide_eq_false (by omega)]
        first | (exact decide_eq_false (by omega)) | (exact beq_false_of_ne (by omega)) | (exact (by omega : False).elim)
end Go.Proofs.YtpmidjddjdejmaaGreatDoor
namespace Go.Proofs.YtpmidjddjdejmaaGreatDoor
open Go.RowKit Corb
def RdrT (w : World) (b : Nat) (s : ByteArray) (p : Nat) : Prop := Three w b (.string s) (.int .i64 (min p (8 * s.size) : Nat)) (.bool true)
theorem RdrT.before {w : World} {b p : Nat} {s : ByteArray} (h : RdrT w b s p) (hp : p < 8 * s.size) : Three w b (.string s) (.int .i64 (p : Int)) (.bool true) := by
  unfold RdrT at h
  rwa [Nat.min_eq_left (by omega)] at h
theorem RdrT.next {w : World} {b p : Nat} {s : ByteArray} (h : Three w b (.string s) (.int .i64 ((p : Int) + 1)) (.bool true)) (hp : p < 8 * s.size) : RdrT w b s (p + 1) := by
  unfold RdrT
  rwa [Nat.min_eq_left (by omega)]
theorem RdrT.past {w : World} {b p : Nat} {s : ByteArray} (h : RdrT w b s p) (hp : 8 * s.size ≤ p) : Three w b (.string s) (.int .i64 (8 * s.size : Nat)) (.bool true) := by
  unfold RdrT at h
  rwa [Nat.min_eq_right (by omega)] at h
theorem RdrT.bad {w : World} {b p : Nat} {s : ByteArray} (h : Three w b (.string s) (.int .i64 (8 * s.size : Nat)) (.bool true)) (hp : 8 * s.size ≤ p) : RdrT w b s (p + 1) := by
  unfold RdrT
  rwa [Nat.min_eq_right (by omega)]
theorem RdrT.at {w : World} {b p : Nat} {s : ByteArray} (h : RdrT w b s p) (hp : p ≤ 8 * s.size) : Three w b (.string s) (.int .i64 (p : Int)) (.bool true) := by
  unfold RdrT at h
  rwa [Nat.min_eq_left (by omega)] at h
theorem RdrT.kept {w w' : World} {b p : Nat} {s : ByteArray} (h : RdrT w b s p) (hb : Below (b + 1) w w') : RdrT w' b s p := Three.kept h hb
theorem RdrT.lt {w : World} {b p : Nat} {s : ByteArray} (h : RdrT w b s p) : b < w.heap.size := h.2.2.2.2.2.2
theorem RdrT.cut {w : World} {b p : Nat} {s : ByteArray} (h : RdrT w b s p) : ∃ q, q ≤ 8 * s.size ∧ RdrT w b s q := ⟨min p (8 * s.size), Nat.min_le_right _ _, by unfold RdrT at h ⊢; rw [Nat.min_eq_left (Nat.min_le_right p (8 * s.size))]; exact h⟩
attribute [local go_sem ↓] Go.wp_at_zero Go.wp_at_succ
set_option maxHeartbeats 800000 in
theorem badBit_any (b p : Nat) (s : ByteArray) (w : World) (h : RdrT w b s p) (hs : s.size ≤ 2000000) :
    Calls Tryz.prog 115 #[.pointer (some ⟨b, 0, none⟩)] w fun e w' => e = .returned (.int .i64 (numB s / 2 ^ p % 2 : Nat)) ∧ RdrT w' b s (p + 1) ∧ Keep1 b w w' := by
  have hs' : (s.size : Int) ≤ 2000000 := by omega
  by_cases hp : p < 8 * s.size
  · have h3 := h.before hp
    have hq : p / 8 < s.size := by omega
    have hb := numB_bit s p hq
    generalize hN : numB s / 2 ^ p % 2 = N at *
    have Hp := hide hp
    have hpI : (p : Int) < 8 * (s.size : Int) := by omega
    have hp7 : p2 (p % 8) ≤ 128 := p2_le (p % 8) 7 (by omega)
    have hp1 := p2_pos (p % 8)
    have h3' := hide h3
    obtain ⟨c0, c1, c2, f0, f1, f2, hb3⟩ := h3
    have hb' : (s[p / 8]).toNat / p2 (p % 8) % 2 = N := hb
    clear h hN hb
    obtain ⟨Q, hQ⟩ : ∃ Q, p / 8 = Q := ⟨_, rfl⟩
    obtain ⟨R, hR⟩ : ∃ R, p % 8 = R := ⟨_, rfl⟩
    simp only [hQ, hR] at hb' hp7 hp1 hq
    have hbd := (s[Q]).toNat_lt
    generalize hPW : p2 R = PW at *
    have HPW := hide (fun W => powR R PW W (by omega) hPW)
    have hR8 : (R : Int) ≤ 60 := by omega
    have e1 : IntKind.i64.wrap (Q : Int) = (Q : Int) := wrap_id _ (by omega) (by omega)
    have e2 : (p : Int) / 8 = (Q : Int) := by omega
    have e3 : (p : Int) % 8 = (R : Int) := by omega
    have e4 : Int.tmod (p : Int) 8 = (R : Int) := by rw [Int.tmod_eq_emod_of_nonneg (by omega)]; exact e3
    have e5 : (Q : Int) < (s.size : Int) := by omega
    have e6 : (0 : Int) ≤ (Q : Int) := by omega
    have hle : (s[Q]).toNat / PW ≤ (s[Q]).toNat := Nat.div_le_self _ _
    have e7 : ((s[Q]).toNat : Int) / (PW : Int) = (((s[Q]).toNat / PW : Nat) : Int) := by simp
    have e0 : (0 : Int) ≤ ((s[Q]).toNat : Int) / (PW : Int) ∧ ((s[Q]).toNat : Int) / (PW : Int) ≤ 255 := by rw [e7]; exact ⟨Int.natCast_nonneg _, by omega⟩
    have e8 : IntKind.i64.wrap (((s[Q]).toNat : Int) / (PW : Int)) = ((s[Q]).toNat : Int) / (PW : Int) := wrap_id _ (by omega) (by omega)
    have e10 : ((s[Q]).toNat : Int) / (PW : Int) % 2 = (N : Int) := by rw [e7]; exact_mod_cast hb'
    have e9 : Int.tmod (((s[Q]).toNat : Int) / (PW : Int)) 2 = (N : Int) := by rw [Int.tmod_eq_emod_of_nonneg e0.1]; exact e10
    have e14 : IntKind.i64.wrap ((s[Q]).toNat : Int) = ((s[Q]).toNat : Int) := wrap_id _ (by omega) (by omega)
    have e11 : (0 : Int) < (PW : Int) := by omega
    have e12 : ¬ PW = 0 := by omega
    have e13 : ¬ (PW : Int) = 0 := by omega
    clear hs hp hQ hR hPW hb' hle hbd hp7 hp1 e7 e0
    go_enter Tryz.func115, Tryz.ntmps115
    go_wp2
    go_quiet (fail)
    go_wp2
    go_region_held3 (fun W => W.cell? ⟨b, 0, none⟩ = some (.string s) ∧ W.cell? ⟨b, 1, none⟩ = some (.int .i64 (p : Int))) (first | exact ⟨c0, c1⟩ | assumption) (first | (go_at_call 104; refine (unhide HPW _).mono ?_; rintro e w' ⟨rfl, rfl⟩))
    all_goals
      go_wp2
      go_ret
      exact ⟨rfl, RdrT.next (by exact (unhide h3').set1 _) (unhide Hp), keep1_set _ _ _ _ _⟩
  · have h3 := h.past (by omega)
    have h3' := hide h3
    have Hp := hide hp
    have hN := hide (numB_past s p (by omega))
    obtain ⟨c0, c1, c2, f0, f1, f2, hb3⟩ := h3
    rw [Int.natCast_mul] at c1
    clear h hp hs
    go_enter Tryz.func115, Tryz.ntmps115
    go_wp2
    go_quiet (fail)
    go_wp2
    go_ret
    exact ⟨ret_int (by rw [unhide hN]; rfl), RdrT.bad ((unhide h3').set2 _) (by have := unhide Hp; omega), keep1_set _ _ _ _ _⟩
set_option maxHeartbeats 800000 in
theorem badNum_any (b p c : Nat) (s : ByteArray) (w : World) (h : RdrT w b s p) (hs : s.size ≤ 2000000) (hc : c ≤ 16) :
    Calls Tryz.prog 116 #[.pointer (some ⟨b, 0, none⟩), .int .i64 (c : Int)] w fun e w' => e = .returned (.int .i64 (numB s / 2 ^ p % 2 ^ c : Nat)) ∧ RdrT w' b s (p + c) ∧ Keep1 b w w' := by
  have Hs := hide hs
  have hc' : (c : Int) ≤ 16 := by omega
  have Hc := hide hc
  clear hs hc
  go_enter Tryz.func116, Tryz.ntmps116
  go_wp2_with fail
  go_loopw [5, 6] (fun n i wr => ∃ k : Nat, k ≤ c ∧ i = .int .i64 k ∧ n = .int .i64 (numB s / 2 ^ p % 2 ^ k : Nat) ∧ RdrT wr b s (p + k) ∧ Keep1 b w wr) (fun _ i _ => c - (intOf i).toNat)
  case atStart => exact ⟨0, Nat.zero_le _, rfl, by simp [Nat.mod_one], h, Keep1.refl _ _⟩
  case round =>
    obtain ⟨k, hk, rfl, rfl, hr, hbel⟩ := hrel
    clear h
    have Hk := hide hk
    by_cases hlt : k < c
    · have hkc : (k : Int) < (c : Int) := by omega
      have hk16 : k ≤ 16 := by have := unhide Hc; omega
      have hst : Hid (numB s / 2 ^ p % 2 ^ (k + 1) = numB s / 2 ^ p % 2 ^ k + numB s / 2 ^ (p + k) % 2 * p2 k) := num_step (numB s) p k
      have hn1 := num_bd (numB s) p k hk16
      have hx : numB s / 2 ^ (p + k) % 2 ≤ 1 := by omega
      have hpw := pow_bdN k hk16
      have hbit := hide (badBit_any b (p + k) s wr hr (unhide Hs))
      have HPW := hide (fun W => powR k (p2 k) W (by omega) rfl)
      generalize numB s / 2 ^ p % 2 ^ k = n at *
      generalize numB s / 2 ^ (p + k) % 2 = x at *
      generalize p2 k = PW at *
      have hmul : x * PW ≤ 65536 := by rcases (show x = 0 ∨ x = 1 by omega) with e | e <;> subst e <;> omega
      have e1 : IntKind.i64.wrap ((x : Int) * (PW : Int)) = ((x * PW : Nat) : Int) := by rw [← Int.natCast_mul]; exact wrap_id _ (by omega) (by omega)
      have e1' : ((x : Int) * (PW : Int)) = ((x * PW : Nat) : Int) := by rw [← Int.natCast_mul]
      have hn1' : (n : Int) < 65536 := by omega
      have hm1' : ((x * PW : Nat) : Int) ≤ 65536 := by omega
      have hm0' : (0 : Int) ≤ ((x * PW : Nat) : Int) := by omega
      generalize hM : x * PW = M at *
      have HM := hide hM
      clear hM hk16 hx hpw hn1 hmul hk hr
      go_wp2_with fail
      refine (unhide hbit).mono ?_
      rintro e x1 ⟨rfl, hr1, hb1⟩
      go_wp2_with fail
      refine (unhide HPW _).mono ?_
      rintro e x2 ⟨rfl, rfl⟩
      go_wp2
      go_roundw
      case rel => exact ⟨k + 1, by omega, by go_num, by rw [unhide hst]; go_num, hr1, hbel.trans hb1⟩
      case measure => simp [intOf]; omega
    · obtain rfl : k = c := by have := unhide Hk; omega
      go_wp2
      go_ret
      exact ⟨rfl, hr, hbel⟩
set_option maxHeartbeats 800000 in
theorem badWhole_any (b p : Nat) (s : ByteArray) (w : World) (h : RdrT w b s p) (hs : s.size ≤ 2000000) (hp : p ≤ 8 * s.size) :
    Calls Tryz.prog 81 #[.pointer (some ⟨b, 0, none⟩)] w fun e w' => e = .returned (.bool (decide (numB s / 2 ^ p % 2 ^ ((8 - p % 8) % 8) = 0))) ∧ RdrT w' b s (p + (8 - p % 8) % 8) ∧ Keep1 b w w' := by
  have Hs := hide hs
  have hp7 : (8 - p % 8) % 8 ≤ 7 := by omega
  have hpm : (p + (8 - p % 8) % 8) % 8 = 0 := by omega
  have hpl : p + (8 - p % 8) % 8 ≤ 8 * s.size := by omega
  have hmin : ∀ j, j < (8 - p % 8) % 8 → (p + j) % 8 ≠ 0 := by omega
  have hsI : (s.size : Int) ≤ 2000000 := by omega
  generalize (8 - p % 8) % 8 = c at *
  have Hp := hide hpl
  clear hs hp hpl
  go_enter Tryz.func81, Tryz.ntmps81
  go_wp2_with fail
  go_loopw [3] (fun n wr => ∃ k m : Nat, k ≤ c ∧ n = .int .i64 (m : Nat) ∧ m ≤ k ∧ (m = 0 ↔ numB s / 2 ^ p % 2 ^ k = 0) ∧ RdrT wr b s (p + k) ∧ Keep1 b w wr) (fun _ wr => c + p - (match wr.cell? ⟨b, 1, none⟩ with | some (.int _ i) => i.toNat | _ => 0))
  case atStart => exact ⟨0, 0, Nat.zero_le _, rfl, Nat.le_refl _, by simp [Nat.mod_one], h, Keep1.refl _ _⟩
  case round =>
    obtain ⟨k, m, hk, rfl, hmk, hm0, hr, hbel⟩ := hrel
    clear h
    have h3 := hr.at (by have := unhide Hp; omega)
    obtain ⟨c0, c1, c2, f0, f1, f2, hb3⟩ := h3
    have Hk := hide hk
    have Hm0 := hide hm0
    have hpk : ((p + k : Nat) : Int) ≤ 16000000 := by have := unhide Hp; omega
    clear hm0
    by_cases hlt : k < c
    · have hne : ¬ ((p + k : Nat) : Int) % 8 = 0 := by have := hmin k hlt; omega
      have hst := hide (rest_step (numB s) p k)
      have hx : numB s / 2 ^ (p + k) % 2 ≤ 1 := by omega
      have hbit := hide (badBit_any b (p + k) s wr hr (unhide Hs))
      generalize numB s / 2 ^ (p + k) % 2 = x at *
      have hxI : (x : Int) ≤ 1 := by omega
      have hmI : (m : Int) ≤ 7 := by omega
      have HX := hide hx
      have Hmk := hide hmk
      have Hlt := hide hlt
      have Hpk := hide (show p + k < 8 * s.size by have := unhide Hp; omega)
      clear hmin hx hk hmk hlt hr hpm hp7
      generalize hPK : p + k = pk at *
      have HPK := hide hPK
      clear hPK
      go_wp2_with fail
      refine (unhide hbit).mono ?_
      rintro e x1 ⟨rfl, hr1, hb1⟩
      go_wp2
      go_roundw
      case rel => exact ⟨k + 1, m + x, unhide Hlt, by go_num, by have := unhide Hmk; have := unhide HX; omega, by rw [unhide hst, ← unhide Hm0]; omega, by rw [← unhide HPK] at hr1; exact hr1, hbel.trans hb1⟩
      case measure =>
        have h1 := (hr1.at (by have := unhide Hpk; omega)).2.1
        rw [h1, c1]
        have := unhide HPK; have := unhide Hlt
        simp
        omega
    · obtain rfl : k = c := by have := unhide Hk; omega
      have he : ((p + k : Nat) : Int) % 8 = 0 := by omega
      generalize hPK : p + k = pk at *
      go_wp2
      go_ret
      refine ⟨ret_bool ?_, by rw [hPK]; exact hr, hbel⟩
      rw [show decide (numB s / 2 ^ p % 2 ^ k = 0) = decide (m = 0) from decide_eq_decide.2 (unhide Hm0).symm]
      rcases Nat.eq_zero_or_pos m with h0 | h0
      · subst h0; rfl
      · rw [decide_eq_false (by omega)]
        first | (exact decide_eq_false (by omega)) | (exact beq_false_of_ne (by omega)) | (exact (by omega : False).elim)
end Go.Proofs.YtpmidjddjdejmaaGreatDoor
namespace Go.Proofs.YtpmidjddjdejmaaGreatDoor
open Go.RowKit Corb
theorem Box.keep1 {w w' : World} {P b : Nat} {x y : Int} (h : Box w P x y) (hk : Keep1 b w w') (hb : P ≠ b) : Box w' P x y := by
  unfold Box at *
  rw [hk.2 P (Array.getElem?_eq_some_iff.1 h).1 hb]
  exact h
theorem or_join (n x k M : Nat) (hn : n < p2 k) (hx : x ≤ 1) (hk : k ≤ 16) (hM : x * p2 k = M) : bits .or .i64 (n : Int) (M : Int) = ((n + M : Nat) : Int) := by
  have h1 := pow_bdN k hk
  have hM2 : M ≤ 65536 := by
    rcases (show x = 0 ∨ x = 1 by omega) with e | e <;> subst e <;> omega
  rw [i64_or_nat n M (by omega) (by omega)]
  congr 1
  rw [Nat.or_comm]
  rw [nat_join k M n (by rw [← hM]; exact Nat.mul_mod_left _ _) hn]
  omega
set_option maxHeartbeats 1600000 in
theorem rdPass_any (b p c : Nat) (num : Int) (s : ByteArray) (w : World) (h : Rdr w b s p) (hs : s.size ≤ 2000000) (hc : c ≤ 16) :
    Calls Tryz.prog 134 #[.pointer (some ⟨b, 0, none⟩), .agg #[.int .i64 num, .int .i64 (c : Int)]] w fun e w' => e = .returned (.int .i64 (numB s / 2 ^ p % 2 ^ c : Nat)) ∧ Rdr w' b s (p + c) ∧ Keep1 b w w' := by
  have Hs := hide hs
  have hc' : (c : Int) ≤ 16 := by omega
  have Hc := hide hc
  have hlt := h.lt
  have hbox0 := box_new w num (c : Int)
  have h0 := h.alloc (.cells #[.int .i64 num, .int .i64 (c : Int)] 53)
  have hk0 : Keep1 b w (w.alloc (.cells #[.int .i64 num, .int .i64 (c : Int)] 53)) := (Keep1.refl _ _).alloc (by omega) _
  clear hs hc h
  go_enter Tryz.func134, Tryz.ntmps134
  go_wp2_with fail
  go_loopw [5, 6, 9] (fun n _ i wr => ∃ k : Nat, k ≤ c ∧ i = .int .i64 k ∧ n = .int .i64 (numB s / 2 ^ p % 2 ^ k : Nat) ∧ Rdr wr b s (p + k) ∧ Keep1 b w wr) (fun _ _ i _ => c - (intOf i).toNat)
  case atStart => exact ⟨0, Nat.zero_le _, rfl, by simp [Nat.mod_one], h0, hk0⟩
  case round =>
    obtain ⟨k, hk, rfl, rfl, hr, hbel⟩ := hrel
    clear h0 hk0 hbox0
    have Hk := hide hk
    by_cases hlt : k < c
    · have hkc : (k : Int) < (c : Int) := by omega
      have hk16 : k ≤ 16 := by have := unhide Hc; omega
      have hst : Hid (numB s / 2 ^ p % 2 ^ (k + 1) = numB s / 2 ^ p % 2 ^ k + numB s / 2 ^ (p + k) % 2 * p2 k) := num_step (numB s) p k
      have hn0 : numB s / 2 ^ p % 2 ^ k < p2 k := Nat.mod_lt _ (Nat.two_pow_pos k)
      have hn1 := num_bd (numB s) p k hk16
      have hx : numB s / 2 ^ (p + k) % 2 ≤ 1 := by omega
      have hpw := pow_bdN k hk16
      have hbit := hide (rdBit_any b (p + k) s wr hr (unhide Hs))
      have hp2i := p2_int k
      generalize numB s / 2 ^ p % 2 ^ k = n at *
      generalize numB s / 2 ^ (p + k) % 2 = x at *
      have hor := or_join n x k (x * p2 k) hn0 hx hk16 rfl
      have hmul : x * p2 k ≤ 65536 := by rcases (show x = 0 ∨ x = 1 by omega) with e | e <;> rw [e] <;> omega
      have e1' : (x : Int) * 2 ^ k = ((x * p2 k : Nat) : Int) := by rw [Int.natCast_mul, hp2i]
      have e1 : IntKind.i64.wrap ((x : Int) * 2 ^ k) = ((x * p2 k : Nat) : Int) := by rw [e1']; exact wrap_id _ (by omega) (by omega)
      generalize x * p2 k = M at *
      have e2 : IntKind.i64.wrap (M : Int) = (M : Int) := wrap_id _ (by omega) (by omega)
      have k0 : (0 : Int) ≤ (k : Int) := by omega
      have k16 : (k : Int) ≤ 16 := by omega
      clear hk16 hx hpw hn1 hmul hk hr hn0 hp2i
      go_wp2_with fail
      refine (unhide hbit).mono ?_
      rintro e x1 ⟨rfl, hr1, hb1⟩
      go_wp2
      go_roundw
      case rel => exact ⟨k + 1, by omega, by go_num, by rw [unhide hst]; go_num, hr1, hbel.trans hb1⟩
      case measure => simp [intOf]; omega
    · obtain rfl : k = c := by have := unhide Hk; omega
      go_wp2
      go_ret
      exact ⟨rfl, hr, hbel⟩
theorem or_bits (m x : Nat) (hm : m ≤ 1) (hx : x ≤ 1) : ∃ y : Nat, bits .or .i64 (m : Int) (x : Int) = (y : Int) ∧ y ≤ 1 ∧ (y = 0 ↔ m = 0 ∧ x = 0) := by
  refine ⟨m ||| x, i64_or_nat m x (by omega) (by omega), ?_, ?_⟩
  · rcases (show m = 0 ∨ m = 1 by omega) with e | e <;> rcases (show x = 0 ∨ x = 1 by omega) with f | f <;> subst e <;> subst f <;> decide
  · rcases (show m = 0 ∨ m = 1 by omega) with e | e <;> rcases (show x = 0 ∨ x = 1 by omega) with f | f <;> subst e <;> subst f <;> decide
set_option maxHeartbeats 800000 in
theorem rdClear_any (b p : Nat) (s : ByteArray) (w : World) (h : Rdr w b s p) (hs : s.size ≤ 2000000) (hp : p ≤ 8 * s.size) :
    Calls Tryz.prog 135 #[.pointer (some ⟨b, 0, none⟩)] w fun e w' => e = .returned (.bool (decide (numB s / 2 ^ p % 2 ^ ((8 - p % 8) % 8) = 0))) ∧ Rdr w' b s (p + (8 - p % 8) % 8) ∧ Keep1 b w w' := by
  have Hs := hide hs
  have hp7 : (8 - p % 8) % 8 ≤ 7 := by omega
  have hpm : (p + (8 - p % 8) % 8) % 8 = 0 := by omega
  have hpl : p + (8 - p % 8) % 8 ≤ 8 * s.size := by omega
  have hmin : ∀ j, j < (8 - p % 8) % 8 → (p + j) % 8 ≠ 0 := by omega
  have hsI : (s.size : Int) ≤ 2000000 := by omega
  generalize (8 - p % 8) % 8 = c at *
  have Hp := hide hpl
  clear hs hp hpl
  go_enter Tryz.func135, Tryz.ntmps135
  go_wp2_with fail
  go_loopw [3] (fun n wr => ∃ k m : Nat, k ≤ c ∧ n = .int .i64 (m : Nat) ∧ m ≤ 1 ∧ (m = 0 ↔ numB s / 2 ^ p % 2 ^ k = 0) ∧ Rdr wr b s (p + k) ∧ Keep1 b w wr) (fun _ wr => c + p - (match wr.cell? ⟨b, 1, none⟩ with | some (.int _ i) => i.toNat | _ => 0))
  case atStart => exact ⟨0, 0, Nat.zero_le _, rfl, by omega, by simp [Nat.mod_one], h, Keep1.refl _ _⟩
  case round =>
    obtain ⟨k, m, hk, rfl, hmk, hm0, hr, hbel⟩ := hrel
    clear h
    have h3 := hr.at (by have := unhide Hp; omega)
    obtain ⟨c0, c1, c2, f0, f1, f2, hb3⟩ := h3
    have Hk := hide hk
    have Hm0 := hide hm0
    have hpk : ((p + k : Nat) : Int) ≤ 16000000 := by have := unhide Hp; omega
    clear hm0
    by_cases hlt : k < c
    · have hne : ¬ ((p + k : Nat) : Int) % 8 = 0 := by have := hmin k hlt; omega
      have hst := hide (rest_step (numB s) p k)
      have hx : numB s / 2 ^ (p + k) % 2 ≤ 1 := by omega
      have hbit := hide (rdBit_any b (p + k) s wr hr (unhide Hs))
      generalize numB s / 2 ^ (p + k) % 2 = x at *
      obtain ⟨y, hor, hy1, hy0⟩ := or_bits m x hmk hx
      have HY := hide hy0
      have HY1 := hide hy1
      have Hlt := hide hlt
      have Hpk := hide (show p + k < 8 * s.size by have := unhide Hp; omega)
      clear hmin hx hk hmk hlt hr hpm hp7 hy0 hy1
      generalize hPK : p + k = pk at *
      have HPK := hide hPK
      clear hPK
      go_wp2_with fail
      refine (unhide hbit).mono ?_
      rintro e x1 ⟨rfl, hr1, hb1⟩
      go_wp2
      go_roundw
      case rel => exact ⟨k + 1, y, unhide Hlt, rfl, unhide HY1, by rw [unhide hst, ← unhide Hm0]; exact unhide HY, by rw [← unhide HPK] at hr1; exact hr1, hbel.trans hb1⟩
      case measure =>
        have h1 := (hr1.at (by have := unhide Hpk; omega)).2.1
        rw [h1, c1]
        have := unhide HPK; have := unhide Hlt
        simp
        omega
    · obtain rfl : k = c := by have := unhide Hk; omega
      have he : ((p + k : Nat) : Int) % 8 = 0 := by omega
      generalize hPK : p + k = pk at *
      go_wp2
      go_ret
      refine ⟨ret_bool ?_, by rw [hPK]; exact hr, hbel⟩
      rw [show decide (numB s / 2 ^ p % 2 ^ k = 0) = decide (m = 0) from decide_eq_decide.2 (unhide Hm0).symm]
      rcases Nat.eq_zero_or_pos m with h0 | h0
      · subst h0; rfl
      · rw [decide_eq_false (by omega)]
        first | (exact decide_eq_false (by omega)) | (exact beq_false_of_ne (by omega)) | (exact (by omega : False).elim)
end Go.Proofs.YtpmidjddjdejmaaGreatDoor
