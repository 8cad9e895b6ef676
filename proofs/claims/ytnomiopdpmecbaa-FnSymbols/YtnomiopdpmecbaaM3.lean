/- Of what the proof is made: 5 texts, one behind the other. -/
import Derived.Test.YtnomiopdpmecbaaM2
import Derived.Deep.QuietTactic
import Derived.BigQuiet
import Derived.BigRegion
import Derived.WalkSmall
import Derived.Deep.RegionWith
import Derived.Test.YtnomiopdpmecbaaM1
/- Two cells of a block of the call's own; worlds that are kept but for one block. -/
namespace Go.Proofs.Ytnomiopdpmecbaa
open Go.RowKit

/-- Two cells of a block of the call's own. -/
def Two (w : World) (b : Nat) (v0 v1 : Value) : Prop :=
  w.cell? ⟨b, 0, none⟩ = some v0 ∧ w.cell? ⟨b, 1, none⟩ = some v1 ∧ w.frozen? ⟨b, 0, none⟩ = false ∧ w.frozen? ⟨b, 1, none⟩ = false ∧ b < w.heap.size

theorem below_set {B : Nat} {a w : World} (h : Below B a w) {b o : Nat} (hb : B ≤ b) (u : Value) : Below B a (w.setCell ⟨b, o, none⟩ u) := h.setCell (p := ⟨b, o, none⟩) hb u
theorem Two.set0 {w : World} {b : Nat} {v0 v1 : Value} (h : Two w b v0 v1) (u : Value) : Two (w.setCell ⟨b, 0, none⟩ u) b u v1 := by
  obtain ⟨c0, c1, f0, f1, hb⟩ := h
  refine ⟨World.cell?_setCell_same _ _ _ c0, ?_, by simpa using f0, by simpa using f1, by simpa using hb⟩
  rw [World.cell?_setCell_other _ _ _ _ (by simp)]; exact c1
theorem Two.set1 {w : World} {b : Nat} {v0 v1 : Value} (h : Two w b v0 v1) (u : Value) : Two (w.setCell ⟨b, 1, none⟩ u) b v0 u := by
  obtain ⟨c0, c1, f0, f1, hb⟩ := h
  refine ⟨?_, World.cell?_setCell_same _ _ _ c1, by simpa using f0, by simpa using f1, by simpa using hb⟩
  rw [World.cell?_setCell_other _ _ _ _ (by simp)]; exact c0
theorem Two.drew {w : World} {b : Nat} {v0 v1 : Value} (h : Two w b v0 v1) : Two w.drew b v0 v1 := h

end Go.Proofs.Ytnomiopdpmecbaa
/- Contracts of what draws an input out of a code, over this seat's program. -/
namespace Go.Proofs.Ytnomiopdpmecbaa
open Go.RowKit

/-- All that was there is there, but for one block; nothing is new. -/
def Only (b : Nat) (w w' : World) : Prop := Below b w w' ∧ (∀ k, k ≠ b → w'.heap[k]? = w.heap[k]?) ∧ w'.heap.size = w.heap.size

theorem Only.cell {b : Nat} {w w' : World} (h : Only b w w') {p : Addr} (hp : p.block ≠ b) : w'.cell? p = w.cell? p := World.cell?_of_block (w := w) (h.2.1 p.block hp)
theorem Only.frozen {b : Nat} {w w' : World} (h : Only b w w') {p : Addr} (hp : p.block ≠ b) : w'.frozen? p = w.frozen? p := World.frozen?_of_block (w := w) (h.2.1 p.block hp)
theorem only_set (w : World) (b o : Nat) (u : Value) (n : Nat) : Only b w ((w.setCell ⟨b, o, none⟩ u).drewN n) :=
  ⟨below_drewN (below_set (Below.refl _ _) (Nat.le_refl _) _) _, fun k hk => Below.heap_setCell w ⟨b, o, none⟩ u k hk, by show (w.setCell ⟨b, o, none⟩ u).heap.size = _; simp⟩

/-- A reader of a code: where it stands is at most m; the code lies below B. -/
def Rd (w : World) (B b m : Nat) : Prop := ∃ (a : Option Addr) (len cap p : Nat) (z : Nat → Int), len ≤ 2000 ∧ p ≤ m ∧ B ≤ b ∧ Two w b (.slice a len cap) (.int .i64 p) ∧
  (∀ i, 0 ≤ z i ∧ z i < 256) ∧ (0 < len → ∃ ab ao, a = some ⟨ab, ao, none⟩ ∧ ab < B ∧ ∀ i, i < len → w.cell? ⟨ab, ao + i, none⟩ = some (.int .u8 (z i)))

theorem mix_bd (X n : Int) (h0 : 0 ≤ X) (h1 : X < 1000000000) (n1 : 1 ≤ n) : 0 ≤ (bits .xor .i64 X (X / 64)).tmod n ∧ (bits .xor .i64 X (X / 64)).tmod n < n := by
  obtain ⟨x, rfl⟩ := Int.eq_ofNat_of_zero_le h0
  have e := i64_xor_nat x (x / 64) (by omega) (by omega)
  rw [show ((x / 64 : Nat) : Int) = (x : Int) / 64 by omega] at e
  rw [e]
  exact ⟨Int.tmod_nonneg _ (by omega), Int.tmod_lt_of_pos _ (by omega)⟩

set_option maxHeartbeats 1600000 in
theorem pick_any (B b m : Nat) (n : Int) (w : World) (h : Rd w B b m) (hm : m ≤ 100000) (n1 : 1 ≤ n) (n2 : n ≤ 70000) :
    Calls Try.prog 37 #[.pointer (some ⟨b, 0, none⟩), .int .i64 n] w fun e w' => ∃ r : Int, e = .returned (.int .i64 r) ∧ 0 ≤ r ∧ r < n ∧ Rd w' B b (m + 1) ∧ Only b w w' := by
  obtain ⟨a, len, cap, p, z, hl, hp, hB, htwo, hz, hsrc⟩ := h
  have h' := hide htwo
  obtain ⟨c0, c1, f0, f1, hb⟩ := htwo
  have hp' : (p : Int) ≤ 100000 := by omega
  have hl' : (len : Int) ≤ 2000 := by omega
  have hrd : ∀ nq, Rd ((w.setCell ⟨b, 1, none⟩ (.int .i64 ((p : Int) + 1))).drewN nq) B b (m + 1) := by
    intro nq
    refine ⟨a, len, cap, p + 1, z, hl, by omega, hB, (unhide h').set1 _, hz, fun h0 => ?_⟩
    obtain ⟨ab, ao, e, hlt, hc⟩ := hsrc h0
    refine ⟨ab, ao, e, hlt, fun i hi => ?_⟩
    rw [← hc i hi]
    exact (only_set w b 1 _ nq).cell (by show ab ≠ b; omega)
  have Hrd := hide hrd
  clear hrd
  by_cases h0 : len = 0
  · subst h0
    clear hsrc hl hp hm
    go_enter Try.func37, Try.ntmps37
    go_wp2
    go_ret
    exact ⟨0, rfl, by omega, by omega, unhide Hrd 0, only_set w b 1 _ 0⟩
  · obtain ⟨ab, ao, rfl, hlt, hc⟩ := hsrc (by omega)
    have hlp : (0 : Int) < (len : Int) := by omega
    have hne : ((len : Int) == 0) = false := by simp; omega
    have hab : ab ≠ b := by omega
    by_cases hk : p < len
    · have hcp := hc p hk
      have hzp := hz p
      obtain ⟨z0, z1⟩ := hzp
      generalize z p = zp at *
      clear hsrc hc hz hl hp hm h0
      go_enter Try.func37, Try.ntmps37
      go_wp2
      go_ret
      exact ⟨zp % n, rfl, Int.emod_nonneg _ (by omega), Int.emod_lt_of_pos _ (by omega), unhide Hrd 0, only_set w b 1 _ 0⟩
    · have i1 := hc (p % len) (Nat.mod_lt _ (by omega))
      have i2 := hc ((p * 7 + 3) % len) (Nat.mod_lt _ (by omega))
      obtain ⟨z0, z1⟩ := hz (p % len)
      obtain ⟨y0, y1⟩ := hz ((p * 7 + 3) % len)
      have j0 : (0 : Int) ≤ (p : Int) % (len : Int) := Int.emod_nonneg _ (by omega)
      have j1 : (p : Int) % (len : Int) < (len : Int) := Int.emod_lt_of_pos _ (by omega)
      have j2 : (0 : Int) ≤ ((p : Int) * 7 + 3) % (len : Int) := Int.emod_nonneg _ (by omega)
      have j3 : ((p : Int) * 7 + 3) % (len : Int) < (len : Int) := Int.emod_lt_of_pos _ (by omega)
      have j4 : (0 : Int) ≤ (p : Int) / (len : Int) := Int.ediv_nonneg (by omega) (by omega)
      have j5 : (p : Int) / (len : Int) ≤ 100000 := Int.le_trans (Int.ediv_le_self _ (by omega)) hp'
      generalize z (p % len) = zp at *
      generalize z ((p * 7 + 3) % len) = yp at *
      clear hsrc hc hz hl hp hm h0
      go_enter Try.func37, Try.ntmps37
      go_wp2
      go_quiet (fail)
      go_wp2
      go_ret
      refine ⟨_, rfl, ?_, ?_, unhide Hrd _, only_set w b 1 _ _⟩
      · exact (mix_bd _ n (by omega) (by omega) n1).1
      · exact (mix_bd _ n (by omega) (by omega) n1).2

end Go.Proofs.Ytnomiopdpmecbaa
/- Contracts of the tests of pieces and of BitsTurn, over this seat's program. -/
namespace Go.Proofs.Ytnomiopdpmecbaa
open Go.RowKit Corb

/-- 2 to the power of a number, closed to the walk. -/
def p2 (k : Nat) : Nat := 2 ^ k
theorem p2_pos (k : Nat) : 1 ≤ p2 k := Nat.one_le_two_pow
theorem p2_succ (k : Nat) : p2 (k + 1) = p2 k * 2 := Nat.pow_succ ..
theorem p2_int (k : Nat) : ((p2 k : Nat) : Int) = (2 : Int) ^ k := by simp [p2]

theorem wrap_id (n : Int) (h0 : -9223372036854775808 ≤ n) (h1 : n ≤ 9223372036854775807) : IntKind.i64.wrap n = n := by
  simp [IntKind.wrap, IntKind.bits, IntKind.signed]; omega

set_option maxHeartbeats 400000 in
theorem l1Pow_any (n : Int) (w : World) (h : n ≤ 60) :
    Calls Try.prog 40 #[.int .i64 n] w fun e w' => e = .returned (.int .i64 (p2 n.toNat : Nat)) ∧ w' = w := by
  have hle : p2 n.toNat ≤ 2 ^ 60 := Nat.pow_le_pow_right (by omega) (by omega)
  generalize hN : p2 n.toNat = N at *
  have HN := hide hN
  clear hN
  go_enter Try.func40, Try.ntmps40
  go_wp2
  go_loop [0, 3] (fun m o => ∃ (k : Int), k ≤ 60 ∧ m = .int .i64 k ∧ ∃ p : Nat, o = .int .i64 p ∧ p * p2 k.toNat = N) (fun m _ => (intOf m).toNat)
  case atStart => exact ⟨n, h, rfl, 1, rfl, by have := unhide HN; omega⟩
  case round =>
    obtain ⟨k, hk, rfl, p, rfl, hp⟩ := hrel
    by_cases h0 : 0 < k
    · have e : p2 k.toNat = p2 (k - 1).toNat * 2 := by rw [← p2_succ]; congr 1; omega
      have hq : p * 2 * p2 (k - 1).toNat = N := by rw [← hp, e, Nat.mul_assoc, Nat.mul_comm 2]
      have hpl : p * 2 ≤ 2 ^ 60 := by
        have h1 : p * 2 * 1 ≤ p * 2 * p2 (k - 1).toNat := Nat.mul_le_mul_left _ (p2_pos _)
        omega
      have HQ := hide hq
      have hpl' : (p : Int) ≤ 1152921504606846976 := by have : (2 : Nat) ^ 60 = 1152921504606846976 := by decide
                                                        omega
      clear e hq hpl hp hle
      go_wp2
      go_round
      case rel => exact ⟨k - 1, by omega, rfl, p * 2, by go_num, unhide HQ⟩
      case measure => simp [intOf]; omega
    · have hk0 : k.toNat = 0 := by omega
      rw [hk0] at hp
      have HP : Hid (p = N) := by have : p = N := by rw [← hp]; simp [p2]
                                  exact this
      clear hp hk0 hle
      go_wp2
      go_ret
      exact ⟨ret_int (by rw [unhide HP]), rfl⟩

/-- A number is of so many bits. -/
def pOk (num bits : Int) : Bool := inB bits 0 16 && inB num 0 ((p2 bits.toNat : Nat) - 1)
theorem pOk_true {num bits : Int} : pOk num bits = true ↔ (0 ≤ bits ∧ bits ≤ 16) ∧ 0 ≤ num ∧ num < (p2 bits.toNat : Nat) := by
  simp only [pOk, Bool.and_eq_true, inB_true]; omega

theorem pow_bd (bits : Int) (h1 : bits ≤ 16) : (1 : Int) ≤ (p2 bits.toNat : Nat) ∧ ((p2 bits.toNat : Nat) : Int) ≤ 65536 := by
  have a : p2 bits.toNat ≤ 65536 := pow_le16 bits.toNat (by omega)
  have b := p2_pos bits.toNat
  omega

set_option maxHeartbeats 800000 in
theorem l1Piece_any (num bits : Int) (w : World) :
    Calls Try.prog 50 #[.agg #[.int .i64 num, .int .i64 bits]] w fun e w' => e = .returned (.bool (pOk num bits)) ∧ Below w.heap.size w w' := by
  cases hb : inB bits 0 16
  · have HP : Hid (pOk num bits = false) := by simp only [Hid, pOk, hb, Bool.false_and]
    go_enter Try.func50, Try.ntmps50
    go_wp2
    go_quiet ((go_at_call 26; exact Calls.quiet_of_same (l1In_any _ _ _ _)))
    go_wp2
    go_ret
    exact ⟨ret_bool (unhide HP).symm, below_drewN ((Below.refl _ _).alloc (Nat.le_refl _) _) _⟩
  · obtain ⟨b0, b1⟩ := inB_true.1 hb
    obtain ⟨q0, q1⟩ := pow_bd bits b1
    have HP : Hid (pOk num bits = inB num 0 ((p2 bits.toNat : Nat) - 1)) := by simp only [Hid, pOk, hb, Bool.true_and]
    generalize hq : ((p2 bits.toNat : Nat) : Int) = q at *
    have HQ := hide hq
    clear hq
    have hwr := wrap_id (q - 1) (by omega) (by omega)
    go_enter Try.func50, Try.ntmps50
    go_wp2
    go_quiet (first | (go_at_call 26; exact Calls.quiet_of_same (l1In_any _ _ _ _)) | (go_at_call 40; exact Calls.quiet_of_same ((l1Pow_any _ _ (by omega)).mono (by rintro e w' ⟨rfl, rfl⟩; exact ⟨ret_int (unhide HQ), rfl⟩))))
    go_wp2
    go_ret
    exact ⟨ret_bool (unhide HP).symm, below_drewN ((Below.refl _ _).alloc (Nat.le_refl _) _) _⟩

end Go.Proofs.Ytnomiopdpmecbaa
/- Contracts of the program's test of pieces, over this seat's program. -/
namespace Go.Proofs.Ytnomiopdpmecbaa
open Go.RowKit Corb

set_option maxHeartbeats 800000 in
theorem pieceOk_any (num bits : Int) (w : World) :
    Calls Try.prog 31 #[.agg #[.int .i64 num, .int .i64 bits]] w fun e w' => e = .returned (.bool (pOk num bits)) ∧ Below w.heap.size w w' := by
  by_cases b0 : 0 ≤ bits
  · by_cases b1 : bits ≤ 16
    · by_cases n0 : 0 ≤ num
      · obtain ⟨q0, q1⟩ := pow_bd bits b1
        have HP : Hid (pOk num bits = decide (num < (p2 bits.toNat : Nat))) := by
          show pOk num bits = decide (num < (p2 bits.toNat : Nat))
          rw [Bool.eq_iff_iff, pOk_true, decide_eq_true_iff]; omega
        have hq := p2_int bits.toNat
        generalize ((p2 bits.toNat : Nat) : Int) = q at *
        have HQ := hide hq
        have hwr := wrap_id q (by omega) (by omega)
        clear hq
        have hwr2 : IntKind.i64.wrap (2 ^ bits.toNat) = q := by
          have h := unhide HQ
          rw [← h]; exact hwr
        have d0 : decide (0 ≤ bits) = true := decide_eq_true b0
        have d1 : decide (bits ≤ 16) = true := decide_eq_true b1
        have d2 : decide (0 ≤ num) = true := decide_eq_true n0
        go_enter Try.func31, Try.ntmps31
        go_wp2
        go_quiet (fail)
        go_wp2
        go_ret
        exact ⟨ret_bool (unhide HP).symm, below_drewN ((Below.refl _ _).alloc (Nat.le_refl _) _) _⟩
      · have HP : Hid (pOk num bits = false) := by
          show pOk num bits = false
          rw [← Bool.not_eq_true, pOk_true]; omega
        have d0 : decide (0 ≤ bits) = true := decide_eq_true b0
        have d1 : decide (bits ≤ 16) = true := decide_eq_true b1
        have d2 : decide (0 ≤ num) = false := decide_eq_false n0
        go_enter Try.func31, Try.ntmps31
        go_wp2
        go_quiet (fail)
        go_wp2
        go_ret
        exact ⟨ret_bool (unhide HP).symm, below_drewN ((Below.refl _ _).alloc (Nat.le_refl _) _) _⟩
    · have HP : Hid (pOk num bits = false) := by
        show pOk num bits = false
        rw [← Bool.not_eq_true, pOk_true]; omega
      have d0 : decide (0 ≤ bits) = true := decide_eq_true b0
      have d1 : decide (bits ≤ 16) = false := decide_eq_false b1
      go_enter Try.func31, Try.ntmps31
      go_wp2
      go_quiet (fail)
      go_wp2
      go_ret
      exact ⟨ret_bool (unhide HP).symm, below_drewN ((Below.refl _ _).alloc (Nat.le_refl _) _) _⟩
  · have HP : Hid (pOk num bits = false) := by
      show pOk num bits = false
      rw [← Bool.not_eq_true, pOk_true]; omega
    have d0 : decide (0 ≤ bits) = false := decide_eq_false b0
    go_enter Try.func31, Try.ntmps31
    go_wp2
    go_quiet (fail)
    go_wp2
    go_ret
    exact ⟨ret_bool (unhide HP).symm, below_drewN ((Below.refl _ _).alloc (Nat.le_refl _) _) _⟩

end Go.Proofs.Ytnomiopdpmecbaa
/- Contracts of BitsTurn, the program's and the model's, over this seat's program. -/
namespace Go.Proofs.Ytnomiopdpmecbaa
open Go.RowKit Corb

/-- A number turned, at every argument. -/
def btI (num bits : Int) : Int := if pOk num bits = true then (rv bits.toNat num.toNat : Nat) else -1
theorem btI_yes {num bits : Int} (h : pOk num bits = true) : btI num bits = (rv bits.toNat num.toNat : Nat) := if_pos h
theorem btI_no {num bits : Int} (h : pOk num bits = false) : btI num bits = -1 := if_neg (by simp [h])

theorem rv_succ_int (k n : Nat) : ((rv (k + 1) n : Nat) : Int) = 2 * (rv k n : Nat) + ((n / 2 ^ k : Nat) : Int) % 2 := by
  simp only [rv]; omega
theorem div_pow_int (n k : Nat) : ((n / 2 ^ k : Nat) : Int) / 2 = ((n / 2 ^ (k + 1) : Nat) : Int) := by
  rw [← div_pow_succ]; omega
theorem shr_int (n k : Nat) : (n : Int) / 2 ^ k = ((n / 2 ^ k : Nat) : Int) := by
  exact (Int.natCast_ediv n (2 ^ k)).symm

set_option maxHeartbeats 400000 in
theorem l1Turn_any (num bits : Int) (w : World) (n0 : 0 ≤ num) (n1 : num < 65536) (b0 : 0 ≤ bits) (b1 : bits ≤ 16) :
    Calls Try.prog 42 #[.int .i64 num, .int .i64 bits] w fun e w' => e = .returned (.int .i64 (rv bits.toNat num.toNat : Nat)) ∧ w' = w := by
  obtain ⟨n, rfl⟩ := Int.eq_ofNat_of_zero_le n0
  obtain ⟨b, rfl⟩ := Int.eq_ofNat_of_zero_le b0
  rw [Int.toNat_natCast, Int.toNat_natCast]
  go_enter Try.func42, Try.ntmps42
  go_wp2
  go_loop [0, 5, 6] (fun m r i => ∃ k : Nat, k ≤ b ∧ i = .int .i64 k ∧ r = .int .i64 (rv k n : Nat) ∧ m = .int .i64 (n / 2 ^ k : Nat)) (fun _ _ i => b - (intOf i).toNat)
  case atStart => exact ⟨0, Nat.zero_le _, rfl, rfl, by simp⟩
  case round =>
    obtain ⟨k, hk, rfl, rfl, rfl⟩ := hrel
    have hr := rv_lt k n
    have hr2 := pow_le16 k (by omega)
    have hn : n / 2 ^ k ≤ n := Nat.div_le_self _ _
    have e1 := hide (rv_succ_int k n)
    have e2 := hide (div_pow_int n k)
    by_cases hlt : k < b
    · have hrl : ((rv k n : Nat) : Int) < 65536 := by omega
      have hnl : ((n / 2 ^ k : Nat) : Int) < 65536 := by omega
      generalize ((n / 2 ^ k : Nat)) = x at *
      generalize rv k n = y at *
      clear hr hr2 hn
      go_wp2
      go_round
      case rel => exact ⟨k + 1, by omega, by go_num, by rw [unhide e1], by rw [← unhide e2]⟩
      case measure => simp [intOf]; omega
    · have hkb : k = b := by omega
      subst hkb
      go_wp2
      go_ret
      exact ⟨rfl, rfl⟩

set_option maxHeartbeats 400000 in
theorem implBitsTurn_any (num bits : Int) (w : World) :
    Calls Try.prog 39 #[.int .i64 num, .int .i64 bits] w fun e w' => e = .returned (.int .i64 (btI num bits)) ∧ Below w.heap.size w w' := by
  cases h : pOk num bits
  · have HI := hide (btI_no h)
    go_enter Try.func39, Try.ntmps39
    go_wp2_with (go_at_call 31; refine (pieceOk_any _ _ _).mono ?_; rintro e w' ⟨rfl, hb⟩)
    go_ret
    exact ⟨ret_int (unhide HI).symm, hb⟩
  · have HI := hide (btI_yes h)
    obtain ⟨⟨b0, b1⟩, n0, n1⟩ := pOk_true.1 h
    have q := (pow_bd bits b1).2
    have n2 : num < 65536 := by omega
    clear n1 q
    obtain ⟨n, rfl⟩ := Int.eq_ofNat_of_zero_le n0
    obtain ⟨b, rfl⟩ := Int.eq_ofNat_of_zero_le b0
    rw [Int.toNat_natCast, Int.toNat_natCast] at HI
    go_enter Try.func39, Try.ntmps39
    go_wp2_with (go_at_call 31; refine (pieceOk_any _ _ _).mono ?_; rintro e w' ⟨rfl, hb⟩)
    go_loop [5, 6, 13] (fun r _ i => ∃ k : Nat, k ≤ b ∧ i = .int .i64 k ∧ r = .int .i64 (rv k n : Nat)) (fun _ _ i => b - (intOf i).toNat)
    case atStart => exact ⟨0, Nat.zero_le _, rfl, rfl⟩
    case round =>
      obtain ⟨k, hk, rfl, rfl⟩ := hrel
      have hr := rv_lt k n
      have hr2 := pow_le16 k (by omega)
      have hn : n / 2 ^ k ≤ n := Nat.div_le_self _ _
      have e1 := hide (rv_succ_int k n)
      by_cases hlt : k < b
      · have hrl : ((rv k n : Nat) : Int) < 65536 := by omega
        have hnl : ((n / 2 ^ k : Nat) : Int) < 65536 := by omega
        have hsh := shr_int n k
        have hkb : (k : Int) ≤ 16 := by omega
        generalize ((n / 2 ^ k : Nat)) = x at *
        generalize rv k n = y at *
        have ha := i64_and_one (x : Int) (by omega) (by omega)
        have ho := i64_or_join 1 ((y : Int) * 2) ((x : Int) % 2) (by omega) (by omega) (by omega) (by omega) (by omega) (by omega)
        clear hr hr2 hn
        go_wp2
        go_round
        case rel => exact ⟨k + 1, by omega, by go_num, by rw [unhide e1]; go_num⟩
        case measure => simp [intOf]; omega
      · have hkb : k = b := by omega
        subst hkb
        go_wp2
        go_ret
        exact ⟨ret_int (unhide HI).symm, hb⟩

end Go.Proofs.Ytnomiopdpmecbaa
