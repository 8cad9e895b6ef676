/- The walks of laws of sums: CrcEnd, CrcByte. -/
import Derived.Test.YticegedgmbpphaaLa1
namespace Go.Proofs.Yticegedgmbpphaa
open Go.RowKit Corb

/-- The four bytes of a number of 32 bits, the lowest first. -/
def quad (X : Nat) : List UInt8 := [UInt8.ofNat (X % 256), UInt8.ofNat (X / 256 % 256), UInt8.ofNat (X / 65536 % 256), UInt8.ofNat (X / 16777216)]

theorem byte_nat (k : Nat) (h : k < 256) : (UInt8.ofNat k).toNat = k := by
  have : k % 256 = k := Nat.mod_eq_of_lt h
  simp [this]

theorem crc_quad (X : Nat) (h : X < 4294967296) : crcMore X (quad X) = 558161692 := by
  unfold crcMore quad
  simp only [fold_cons, fold_nil]
  rw [byte_nat _ (by omega), byte_nat _ (by omega), byte_nat _ (by omega), byte_nat _ (by omega), Corb.four (X ^^^ full) X, Nat.xor_comm X full, Nat.xor_assoc, Nat.xor_self, Nat.xor_zero]
  exact crc_end

theorem quad_back (x : World) (X : Nat) (h : X < 4294967296) :
    (convert 22 9 (.slice (some ⟨x.heap.size, 0, none⟩) 4 4)).run Try.prog (x.alloc (.cells #[.int .u8 ((X : Int) % 256), .int .u8 ((X : Int) / 256 % 256), .int .u8 ((X : Int) / 65536 % 256), .int .u8 ((X : Int) / 16777216)] 5)) =
      .ok (.string ⟨(quad X).toArray⟩) (x.alloc (.cells #[.int .u8 ((X : Int) % 256), .int .u8 ((X : Int) / 256 % 256), .int .u8 ((X : Int) / 65536 % 256), .int .u8 ((X : Int) / 16777216)] 5)) := by
  refine run_convert_bytes_back _ _ _ 5 ⟨x.heap.size, 0, none⟩ 4 (quad X) Try.underlying22 Try.underlying5 Try.underlying9 (fun j hj => ?_)
  have hj4 : j < 4 := hj
  match j, hj4 with
  | 0, _ => simp [Addr.add, quad]
  | 1, _ => simp [Addr.add, quad]
  | 2, _ => simp [Addr.add, quad]
  | 3, _ =>
    have e : (X : Int) / 16777216 = ((X / 16777216 : Nat) : Int) := by omega
    rw [e]
    have := byte_nat (X / 16777216) (by omega)
    simp [Addr.add, quad, this]

set_option maxHeartbeats 1600000 in
theorem fnCrcEnd_walk (a : Option Addr) (len cap : Nat) (zs : List Int) (w : World) (w0 : IsRow .u8 w a len cap zs) :
    Calls Try.prog 12 #[.slice a len cap] w fun e w' => e = .returned (.bool true) ∧ Below w.heap.size w w' := by
  obtain ⟨⟨z, hsrc⟩, hc, hm⟩ := src_of w0
  have hm' := hide hm
  unfold maxLen at hm
  clear w0
  by_cases hl : (len : Int) ≤ 1048576
  · go_enter Try.func12, Try.ntmps12
    go_wp2_with fail
    refine (drawCrc_any a len cap z _ hsrc hc (unhide hm')).mono ?_
    rintro e x1 ⟨⟨s, rfl, hs⟩, hb1⟩
    have hs' := size_max hs (by omega)
    have hx : (crcMore 0 s.data.toList : Int) < 4294967296 := by have := crcMore_lt 0 s.data.toList (by omega); omega
    generalize hX : crcMore 0 s.data.toList = X at *
    have HX := hide hX
    clear hX
    go_wp2_with fail
    refine (implCrc_any s _ hs').mono ?_
    rintro e x2 ⟨rfl, hb2⟩
    rw [unhide HX]
    go_wp2_with fail
    refine (specCrc_any s _ hs').mono ?_
    rintro e x3 ⟨rfl, rfl⟩
    rw [unhide HX]
    have hqb := quad_back x3 X (by omega)
    have e1 : Hid (crcMore 0 (s ++ (⟨(quad X).toArray⟩ : ByteArray)).data.toList = 558161692) := by
      rw [data_append, crcMore_append, unhide HX]
      exact crc_quad X (by omega)
    have hsz : (s ++ (⟨(quad X).toArray⟩ : ByteArray)).size ≤ maxLen := by
      rw [ByteArray.size_append]
      have : (⟨(quad X).toArray⟩ : ByteArray).size = 4 := rfl
      unfold maxLen; omega
    have hq4 : ((⟨(quad X).toArray⟩ : ByteArray).size : Int) = 4 := rfl
    generalize (⟨(quad X).toArray⟩ : ByteArray) = q at *
    go_wp2_with fail
    refine (implCrc_any (s ++ q) _ hsz).mono ?_
    rintro e x4 ⟨rfl, hb4⟩
    rw [unhide e1]
    go_wp2
    go_ret
    exact ⟨rfl, bnext (bnext hb1 hb2) (((Below.refl _ _).alloc (Nat.le_refl _) _).trans (hb4.mono (by simp)))⟩
  · go_enter Try.func12, Try.ntmps12
    go_wp2
    go_ret
    exact ⟨rfl, Below.refl _ _⟩

end Go.Proofs.Yticegedgmbpphaa
