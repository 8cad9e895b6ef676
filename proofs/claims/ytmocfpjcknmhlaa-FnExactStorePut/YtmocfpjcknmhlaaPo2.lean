/- The contract of the model's writer of bits: a number is put, over this seat's program. -/
import Derived.Test.YtmocfpjcknmhlaaPo1
namespace Go.Proofs.Ytmocfpjcknmhlaa
open Go.RowKit Corb

theorem put_bits (n k : Nat) : n % p2 (k + 1) = n % p2 k + n / p2 k % 2 * p2 k := low_bits n k
theorem put_val (V n k m : Nat) : V + n % p2 (k + 1) * p2 m = V + n % p2 k * p2 m + n / p2 k % 2 * p2 (m + k) := by
  rw [put_bits, Nat.add_mul, Nat.mul_assoc, show p2 k * p2 m = p2 (m + k) by unfold p2; rw [← Nat.pow_add, Nat.add_comm]]
  omega
theorem half_pow (n k : Nat) : n / p2 k / 2 = n / p2 (k + 1) := div_pow_succ n k

set_option maxHeartbeats 3200000 in
theorem put_any (b V m : Nat) (num bits : Int) (w : World) (h : Out w b V m) (n0 : 0 ≤ num) (n1 : num < 65536) (b0 : 0 ≤ bits) (b1 : bits ≤ 16) (hm : m ≤ 100000) :
    Calls Try.prog 9 #[.pointer (some ⟨b, 0, none⟩), .int .i64 num, .int .i64 bits] w fun e w' => e = .returned (.tuple #[]) ∧
      Out w' b (V + num.toNat % p2 bits.toNat * p2 m) (m + bits.toNat) ∧ Below b w w' := by
  obtain ⟨n, rfl⟩ := Int.eq_ofNat_of_zero_le n0
  obtain ⟨c, rfl⟩ := Int.eq_ofNat_of_zero_le b0
  rw [Int.toNat_natCast, Int.toNat_natCast]
  obtain ⟨i0, hi, hz0, hz1, hz2⟩ := info_parts Try.infoByte
  go_enter Try.func9, Try.ntmps9
  go_wp2
  go_loopw [1, 6] (fun x i wr => ∃ k : Nat, k ≤ c ∧ i = .int .i64 k ∧ x = .int .i64 (n / p2 k : Nat) ∧ Out wr b (V + n % p2 k * p2 m) (m + k) ∧ Below b w wr) (fun _ i _ => c - (intOf i).toNat)
  case atStart => exact ⟨0, Nat.zero_le _, rfl, by simp [p2], by simpa [p2, Nat.mod_one] using h, Below.refl _ _⟩
  case round =>
    obtain ⟨k, hk, rfl, rfl, hout, hbel⟩ := hrel
    by_cases hlt : k < c
    · have hval := hide (put_val V n k m)
      have hhalf := hide (half_pow n k)
      have hnk : n / p2 k ≤ n := Nat.div_le_self _ _
      obtain ⟨hV, v, htr, hby⟩ := hout
      obtain ⟨sa, scap, rfl⟩ := hby.form
      have hlb := last_bd (V + n % p2 k * p2 m) (m + k) hV
      generalize V + n % p2 k * p2 m = V1 at *
      generalize hm1 : m + k = m1 at *
      have hx : n / p2 k % 2 ≤ 1 := by omega
      have hxI : ((n / p2 k : Nat) : Int) % 2 = ((n / p2 k % 2 : Nat) : Int) := by omega
      have hnkI : ((n / p2 k : Nat) : Int) < 65536 := by omega
      have hp7 : p2 (m1 % 8) ≤ 128 := p2_le (m1 % 8) 7 (by omega)
      have hXle : n / p2 k % 2 * p2 (m1 % 8) ≤ 1 * p2 (m1 % 8) := Nat.mul_le_mul_right _ hx
      have hmul : ((n / p2 k % 2 : Nat) : Int) * ((p2 (m1 % 8) : Nat) : Int) = ((n / p2 k % 2 * p2 (m1 % 8) : Nat) : Int) := by simp
      have hroom := out_room V1 m1 (n / p2 k % 2) hV hx
      have hfull := out_full V1 m1 (n / p2 k % 2) hV hx
      have hr8 : m1 % 8 < 8 := Nat.mod_lt _ (by omega)
      have hm1le : m1 ≤ 100016 := by omega
      have hbl : (leS (m1 / 8) V1).length = m1 / 8 := leS_len _ _
      generalize n / p2 k = nk at *
      generalize hxx : nk % 2 = x at *
      generalize hLL : V1 / p2 (8 * (m1 / 8)) = L at *
      generalize hrr : m1 % 8 = r at *
      generalize hPP : p2 r = P at *
      generalize hXX : x * P = X at *
      have HPP := hide hPP
      have Hm1 := hide hm1
      have Hrr := hide hrr
      have Hroom := hide hroom
      have Hfull := hide hfull
      have Hx := hide hxx
      clear hm1 hLL hrr hPP hXX hV hroom hfull hxx hx hnk
      obtain ⟨k0, k1, k2, f0, f1, f2, hbw⟩ := htr
      have htr : Hid (Three wr b _ _ _) := ⟨k0, k1, k2, f0, f1, f2, hbw⟩
      have hrI : (r : Int) < 8 := by omega
      have hLI : (L : Int) < 128 := by omega
      have hXI : (X : Int) ≤ 128 := by omega
      have hkc : (k : Int) < (c : Int) := by omega
      have Hr8 := hide hr8
      have Hm1le := hide hm1le
      have Hk := hide hk
      have HLX : Hid (IntKind.i64.wrap ((L : Int) + IntKind.i64.wrap ((nk : Int).tmod 2 * (P : Int))) = (L : Int) + (X : Int)) := by
        show IntKind.i64.wrap ((L : Int) + IntKind.i64.wrap ((nk : Int).tmod 2 * (P : Int))) = (L : Int) + (X : Int)
        rw [Int.tmod_eq_emod_of_nonneg (by omega), hxI, hmul, wrap_id (X : Int) (by omega) (by omega), wrap_id ((L : Int) + (X : Int)) (by omega) (by omega)]
      clear hr8 hm1le hp7 hXle hlb hk hm
      go_wp2_with fail
      go_cut [] from 7 to 62 (fun wc => wc = (wr.setCell ⟨b, 1, none⟩ (.int .i64 ((L : Int) + (X : Int)))).drew)
      case first =>
        go_region_with (go_at_call 13; refine (l1Pow_any _ _ (by omega)).mono ?_; rintro e w' ⟨rfl, rfl⟩; rw [Int.toNat_natCast, unhide HPP])
        all_goals
          go_wp2_with fail
          go_meet
          exact by rw [unhide HLX]
      case rest =>
        have T1 := ((unhide htr).set1 (.int .i64 ((L : Int) + (X : Int)))).drew
        have Y1 := (hby.set (o := 1) (.int .i64 ((L : Int) + (X : Int)))).drew
        have B1 : Below b w _ := (below_set hbel (o := 1) (Nat.le_refl _) (.int .i64 ((L : Int) + (X : Int)))).drew
        rw [← hcut] at T1 Y1 B1
        clear hcut hby hbel htr k0 k1 k2 f0 f1 f2 hbw hmul hxI
        have T1' := hide T1
        obtain ⟨k0, k1, k2, f0, f1, f2, hbw⟩ := T1
        by_cases hr7 : (r : Int) = 7
        · have hr7N : r = 7 := by omega
          obtain ⟨o1, o2, o3, o4⟩ := unhide Hfull hr7N
          have O1 := hide o1
          have O2 := hide o2
          have O3 := hide o3
          have O4 := hide o4
          have hLX : L + X < 256 := by omega
          have hbv := hide (byte_val (L + X) hLX)
          have hbI : IntKind.u8.wrap ((L : Int) + (X : Int)) = (L : Int) + (X : Int) := by
            rw [IntKind.wrap_u8']; omega
          subst hr7N
          clear o1 o2 o3 o4 hr7 hLX
          have T2 := (unhide T1').set2 (.int .i64 8)
          have Y2 := Y1.set (o := 2) (.int .i64 8)
          have B2 : Below b w _ := below_set B1 (o := 2) (Nat.le_refl _) (.int .i64 8)
          have hlen := hide hbl
          clear hbl
          go_wp2_with fail
          generalize wc.setCell ⟨b, 2, none⟩ (.int .i64 8) = W2 at *
          clear k0 k1 k2 f0 f1 f2 T1' Y1 B1
          have T2' := hide T2
          obtain ⟨k0, k1, k2, f0, f1, f2, hb2⟩ := T2
          have hbv' : Hid (((UInt8.ofNat (L + X)).toNat : Int) = (L : Int) + (X : Int)) := by
            show ((UInt8.ofNat (L + X)).toNat : Int) = (L : Int) + (X : Int)
            rw [unhide hbv]; omega
          have hl2 : (leS (m1 / 8) V1).length ≤ 20000 := by have := unhide hlen; have := unhide Hm1le; omega
          have Hl2 := hide hl2
          clear hl2
          go_cut [] from 7 to 62 (fun wc2 => ∃ v', Three wc2 b v' (.int .i64 ((L : Int) + (X : Int))) (.int .i64 8) ∧ Bys wc2 b v' (leS (m1 / 8) V1 ++ [UInt8.ofNat (L + X)]) ∧ Below b w wc2)
          case first =>
            go_region_law (refine step_append_own rfl (.tmp 47) (.tmp 53) 28 rfl (b + 1) 5 i0 (.int .u8 0) 1 1 Try.underlying28 hi hz0 hz1 hz2 rfl (by decide) _ _ _ (by simp [Act.eval]) (Y2.alloc _) ⟨W2.heap.size, 0, none⟩ 1 1 [.int .u8 ((L : Int) + (X : Int))] (by simp [Act.eval]) rfl (by intro j u hj; match j, hj with | 0, hj => simp at hj; subst hj; simp [Addr.add]) (by intro u hu; simp at hu; subst hu; rfl) (by have := unhide Hl2; unfold maxLen; omega) (by have := unhide Hl2; omega) (by simp; omega) ?_; intro v' w' hown hgrow hnil; clear hnil; rw [← unhide hbv'] at hown; obtain ⟨⟨g', cap', rfl⟩, T3, Y3, B3⟩ := push_after (unhide T2') Y2 B2 (by first | exact (Below.refl _ _).alloc (by omega) _ | exact ((Below.refl _ _).alloc (by omega) _).drew) hown hgrow; clear hown hgrow; have T3' := hide T3; obtain ⟨q0, q1, q2, e0, e1, e2, hb3⟩ := T3)
            all_goals
              go_wp2_with fail
              go_meet
              exact ⟨_, (unhide T3').set0 _, Y3.set _, below_set B3 (Nat.le_refl _) _⟩
          case rest =>
            obtain ⟨v', T4, Y4, B4⟩ := hcut
            clear k0 k1 k2 f0 f1 f2 T2' Y2 B2 hb2
            obtain ⟨va, vc, rfl⟩ := Y4.form
            have T4' := hide T4
            obtain ⟨k0, k1, k2, f0, f1, f2, hb4⟩ := T4
            go_wp2
            go_roundw
            case rel =>
              refine ⟨k + 1, by have := unhide Hk; omega, by go_num, by rw [← unhide hhalf]; go_num, ?_, below_set (below_set B4 (Nat.le_refl _) _) (Nat.le_refl _) _⟩
              rw [unhide hval, show m + (k + 1) = m1 + 1 by have := unhide Hm1; omega]
              refine ⟨unhide O1, .slice va (leS (m1 / 8) V1 ++ [UInt8.ofNat (L + X)]).length vc, ?_, ?_⟩
              · rw [unhide O2, unhide O3]
                exact ((unhide T4').set1 _).set2 _
              · rw [unhide O4]
                exact (Y4.set _).set _
            case measure => simp [intOf]; omega
        · have hr8f : ((r : Int) + 1 == 8) = false := by simp; omega
          have hlt7 : r < 7 := by omega
          obtain ⟨o1, o2, o3⟩ := unhide Hroom hlt7
          have O1 := hide o1
          have O2 := hide o2
          have O3 := hide o3
          have hm18 : Hid ((m1 + 1) % 8 = r + 1) := by show (m1 + 1) % 8 = r + 1; have := unhide Hrr; omega
          clear o1 o2 o3 hlt7 hr7
          go_wp2
          go_roundw
          case rel =>
            refine ⟨k + 1, by have := unhide Hk; omega, by go_num, by rw [← unhide hhalf]; go_num, ?_, below_set B1 (Nat.le_refl _) _⟩
            rw [unhide hval, show m + (k + 1) = m1 + 1 by have := unhide Hm1; omega]
            refine ⟨unhide O1, .slice sa (leS (m1 / 8) V1).length scap, ?_, ?_⟩
            · rw [unhide O2, unhide hm18]
              exact (unhide T1').set2 _
            · rw [unhide O3]
              exact Y1.set _
          case measure => simp [intOf]; omega
    · have hkc : k = c := by omega
      subst hkc
      go_wp2
      go_end0
      exact ⟨rfl, hout, hbel⟩

end Go.Proofs.Ytmocfpjcknmhlaa
