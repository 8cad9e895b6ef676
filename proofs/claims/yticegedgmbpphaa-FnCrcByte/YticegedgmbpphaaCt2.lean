/- Contracts of the program's CRC state, over this seat's program. -/
import Derived.Test.YticegedgmbpphaaCt1
import Derived.Deep.CutRange
namespace Go.Proofs.Yticegedgmbpphaa
open Go.RowKit Corb

theorem TabTo.below {w w' : World} {b k B : Nat} (h : TabTo w b k) (hb : Below B w w') (hB : b < B) : TabTo w' b k :=
  ⟨fun j hj => ⟨(hb.cell (p := ⟨b, j, none⟩) hB).trans (h.1 j hj).1, (hb.frozen (p := ⟨b, j, none⟩) hB).trans (h.1 j hj).2⟩, Nat.lt_of_lt_of_le h.2 hb.size⟩

theorem TabTo.drew {w : World} {b k : Nat} (h : TabTo w b k) : TabTo w.drew b k := h

theorem u32_low4 (x : Nat) (h : x < 4294967296) : bits .and .u32 (x : Int) 15 = (x : Int) % 16 := by
  have := u32_and_nat x 15 h (by omega)
  rw [show ((15 : Nat) : Int) = 15 from rfl] at this
  rw [this, nat_mask4]; omega

/-- One half byte more. -/
def half (x : Nat) : Nat := shN 4 (x % 16) ^^^ (x / 16)
theorem half_eq (x : Nat) : half x = shN 4 x := (shN4 x).symm
theorem u32_half (x : Nat) (h : x < 4294967296) : bits .xor .u32 ((shN 4 (x % 16) : Nat) : Int) ((x : Int) / 16) = ((half x : Nat) : Int) := by
  have := u32_xor_nat (shN 4 (x % 16)) (x / 16) (shN_lt _ _ (by omega)) (by omega)
  rw [show ((x / 16 : Nat) : Int) = (x : Int) / 16 by omega] at this
  exact this

theorem crcHalf_mod (b : Nat) (x : Nat) (w : World) (h : TabTo w b 16) :
    Calls Try.prog 52 #[.int .u32 ((x : Int) % 16), .pointer (some ⟨b, 0, none⟩)] w fun e w' => e = .returned (.int .u32 (shN 4 (x % 16) : Nat)) ∧ w' = w := by
  refine (crcHalf_any b _ w h (by omega) (by omega)).mono ?_
  rintro e w' ⟨rfl, rfl⟩
  refine ⟨?_, rfl⟩
  rw [show ((x : Int) % 16).toNat = x % 16 by omega]

theorem half_lt (x : Nat) (h : x < 4294967296) : half x < 4294967296 := by rw [half_eq]; exact shN_lt _ _ h

set_option maxHeartbeats 1600000 in
theorem crcAdd_any (b t : Nat) (x c : Int) (w : World) (h : Two w b (.int .u32 c) (.func (.func 52) #[] #[.pointer (some ⟨t, 0, none⟩)])) (ht : TabTo w t 16) (htb : t < b) (c0 : 0 ≤ c) (c1 : c < 4294967296) (x0 : 0 ≤ x) (x1 : x < 256) :
    Calls Try.prog 68 #[.pointer (some ⟨b, 0, none⟩), .int .u8 x] w fun e w' => e = .returned (.tuple #[]) ∧
      Two w' b (.int .u32 (shN 8 (c.toNat ^^^ x.toNat) : Nat)) (.func (.func 52) #[] #[.pointer (some ⟨t, 0, none⟩)]) ∧ Below b w w' := by
  obtain ⟨C, rfl⟩ := Int.eq_ofNat_of_zero_le c0
  obtain ⟨X, rfl⟩ := Int.eq_ofNat_of_zero_le x0
  rw [Int.toNat_natCast, Int.toNat_natCast]
  have hx := u32_xor_byte C X (by omega) (by omega)
  have hxl : C ^^^ X < 4294967296 := Nat.xor_lt_two_pow (n := 32) (by omega) (by omega)
  have h' := h
  obtain ⟨k0, k1, f0, f1, hb⟩ := h
  generalize C ^^^ X = Y at *
  have H8 : Hid (shN 8 Y = half (half Y)) := by rw [half_eq, half_eq, ← shN_add]; exact rfl
  generalize shN 8 Y = R at *
  have hY2 := half_lt Y hxl
  have a1 := u32_low4 Y hxl
  have a2 := u32_half Y hxl
  have a3 := u32_low4 (half Y) hY2
  have a4 := u32_half (half Y) hY2
  generalize half (half Y) = Z2 at *
  generalize half Y = Z1 at *
  have T1 := h'.set0 (.int .u32 (Y : Int))
  have B1 : Below b w (w.setCell ⟨b, 0, none⟩ (.int .u32 (Y : Int))) := below_set (Below.refl _ _) (Nat.le_refl _) _
  have ht1 := ht.below B1 htb
  have B1' := hide B1
  have htb' : t < b := htb
  go_enter Try.func68, Try.ntmps68
  go_wp2_with fail
  generalize w.setCell ⟨b, 0, none⟩ (.int .u32 (Y : Int)) = W1 at *
  clear k0 k1 f0 f1 h' ht hx B1
  obtain ⟨k0, k1, f0, f1, hb1⟩ := T1
  have T2 : Hid (Two (W1.setCell ⟨b, 0, none⟩ (.int .u32 (Z1 : Int))).drew b (.int .u32 (Z1 : Int)) (.func (.func 52) #[] #[.pointer (some ⟨t, 0, none⟩)])) := (Two.set0 (w := W1) ⟨k0, k1, f0, f1, hb1⟩ (.int .u32 (Z1 : Int))).drew
  have B2 : Hid (Below b W1 (W1.setCell ⟨b, 0, none⟩ (.int .u32 (Z1 : Int))).drew) := (below_set (Below.refl _ _) (Nat.le_refl _) _).drew
  go_cut [] from 13 to 31 (fun wc => wc = (W1.setCell ⟨b, 0, none⟩ (.int .u32 (Z1 : Int))).drew)
  case first =>
    go_region_with (go_at_call 52; refine (crcHalf_mod t _ _ ht1.drew).mono ?_; rintro e w' ⟨rfl, rfl⟩)
    all_goals
      go_wp2_with fail
      go_meet
      exact rfl
  case rest =>
    have ht2 := ht1.below (unhide B2) htb
    have T2' := unhide T2
    have B3 := (unhide B1').trans (unhide B2)
    rw [← hcut] at ht2 T2' B3
    clear hcut k0 k1 f0 f1 T2 B2 B1' ht1
    have B3' := hide B3
    have T3 := hide T2'
    clear B3
    obtain ⟨k0, k1, f0, f1, hb2⟩ := T2'
    go_wp2_with fail
    go_region_with (go_at_call 52; refine (crcHalf_mod t _ _ ht2.drew).mono ?_; rintro e w' ⟨rfl, rfl⟩)
    all_goals
      go_end0
      refine ⟨rfl, ?_, ?_⟩
      · rw [unhide H8]
        exact ((unhide T3).set0 _).drew
      · exact (below_set (unhide B3') (Nat.le_refl _) _).drew

end Go.Proofs.Yticegedgmbpphaa
