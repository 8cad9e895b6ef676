/- The walk of a law of bits: bytes are numbers of eight bits. -/
import Derived.Test.YtmhpfnknamimbaaLg5
namespace Go.Proofs.Ytmhpfnknamimbaa
open Go.RowKit Corb

theorem pcs_snocN {x : World} {base n : Nat} {v : Value} {l : List (Int × Int)} {a b : Int} (hn : l.length = n) (h : x.ownsRow base 29 2 v (n + 1) (pcells l ++ [.int .i64 a, .int .i64 b])) : Pcs x base v (l ++ [(a, b)]) := by
  subst hn
  exact pcs_snoc h
theorem specPut_n2 (a : Option Addr) (cap n : Nat) (l : List (Int × Int)) (B : ByteArray) (w : World) (hn : l.length = n) (h : PRow w a l) (hm : n ≤ 1000000000) (hB : putS l = B.data.toList) :
    Calls Try.prog 20 #[.slice a n cap] w fun e w' => e = .returned (.string B) ∧ Below w.heap.size w w' := by
  subst hn
  exact specPut_eq a cap l B w h hm hB.symm
def byteL (z : Nat → Int) (k : Nat) : List (Int × Int) := (List.range k).map fun i => (z i, 8)
def byteB (z : Nat → Int) (k : Nat) : List UInt8 := (List.range k).map fun i => UInt8.ofNat (z i).toNat
theorem byteL_len (z : Nat → Int) (k : Nat) : (byteL z k).length = k := by simp [byteL]
theorem byteB_len (z : Nat → Int) (k : Nat) : (byteB z k).length = k := by simp [byteB]
theorem byteL_succ (z : Nat → Int) (k : Nat) : byteL z (k + 1) = byteL z k ++ [(z k, 8)] := by simp [byteL, List.range_succ]
theorem byteB_succ (z : Nat → Int) (k : Nat) : byteB z (k + 1) = byteB z k ++ [UInt8.ofNat (z k).toNat] := by simp [byteB, List.range_succ]
theorem byteL_bits (z : Nat → Int) (k : Nat) : bitsOf (byteL z (k + 1)) = bitsOf (byteL z k) ++ [8] := by rw [byteL_succ]; simp [bitsOf]
theorem byteL_ok (z : Nat → Int) (hz : ∀ i, 0 ≤ z i ∧ z i < 256) (k : Nat) : allOk (byteL z k) = true := by
  simp only [allOk, byteL, List.all_map, List.all_eq_true]
  intro i _
  have := hz i
  have h8 : p2 (8 : Int).toNat = 256 := by decide
  have h9 : pOk (z i) 8 = true := pOk_true.2 ⟨by omega, by omega, by rw [h8]; omega⟩
  exact h9
theorem byteL_val (z : Nat → Int) (hz : ∀ i, 0 ≤ z i ∧ z i < 256) (k : Nat) : valP (byteL z k) = (valB (byteB z k), 8 * k) := by
  induction k with
  | zero => rfl
  | succ k ih =>
    have h := hz k
    rw [byteL_succ, byteB_succ, valP_append, valB_append, ih, byteB_len]
    have e : valP [(z k, (8 : Int))] = ((z k).toNat, 8) := by simp [valP, natP, putV]
    have e2 : valB [UInt8.ofNat (z k).toNat] = (z k).toNat := by
      simp only [valB]
      rw [byte_val _ (by omega)]
      omega
    rw [e, e2, Nat.mul_comm (2 ^ (8 * k))]
    refine Prod.ext rfl ?_
    show 8 * k + 8 = 8 * (k + 1)
    omega
theorem byteL_put (z : Nat → Int) (hz : ∀ i, 0 ≤ z i ∧ z i < 256) (k : Nat) (hk : k ≤ 60) : lOk (byteL z k) = true ∧ putS (byteL z k) = byteB z k := by
  have h : lOk (byteL z k) = true := by
    simp only [lOk, Bool.and_eq_true, decide_eq_true_iff]
    exact ⟨byteL_ok z hz k, by rw [byteL_len]; omega⟩
  refine ⟨h, ?_⟩
  rw [putS_yes h, textP, byteL_val z hz]
  simp only
  have h2 := leS_valB (byteB z k)
  rw [byteB_len] at h2
  rw [show (8 * k + 7) / 8 = k by omega]
  exact h2
theorem byteB_get (z : Nat → Int) (hz : ∀ i, 0 ≤ z i ∧ z i < 256) (k n : Nat) (B : ByteArray) (hB : B.data.toList = byteB z n) (hk : k < B.size) : ((B[k]).toNat : Int) = z k := by
  have h1 : B[k] = B.data.toList[k]'(by simpa using hk) := by simp; rfl
  rw [h1]
  simp only [hB]
  simp only [byteB, List.getElem_map, List.getElem_range]
  have := hz k
  rw [byte_val _ (by omega)]
  omega
theorem numsOf_byte (z : Nat → Int) (k n : Nat) (h : k < n) : (numsOf (byteL z n)).getD k 0 = z k := by
  simp [numsOf, byteL, List.getD, h]

set_option maxHeartbeats 3200000 in
theorem fnBitsByte_walk (a : Option Addr) (len cap : Nat) (zs : List Int) (w : World) (w0 : IsRow .u8 w a len cap zs) :
    Calls Try.prog 11 #[.slice a len cap] w fun e w' => e = .returned (.bool true) ∧ Below w.heap.size w w' := by
  obtain ⟨⟨z, hsrc⟩, hc, hm⟩ := src_of w0
  unfold maxLen at hm
  clear w0
  obtain ⟨i0, hi, hz0, hz1, hz2⟩ := info_parts Try.infoInt
  obtain ⟨j0, hj, hy0, hy1, hy2⟩ := info_parts Try.infoPiece
  by_cases hl : (len : Int) ≤ 1048576
  · have hq0 : Pcs (w.alloc (.cells #[] 29)) w.heap.size (.slice (some ⟨w.heap.size, 0, none⟩) 0 0) (byteL z 0) :=
      World.ownsRow_lit w #[] 0 (Nat.le_refl _) (by unfold maxLen; omega) rfl
    have hsz1 : (w.alloc (.cells #[] 29)).heap.size = w.heap.size + 1 := by simp
    have hI0 := IOwn.lit (w.alloc (.cells #[] 29)) w.heap.size (by simp)
    rw [hsz1] at hI0
    have hq1 : Pcs ((w.alloc (.cells #[] 29)).alloc (.cells #[] 3)) w.heap.size (.slice (some ⟨w.heap.size, 0, none⟩) 0 0) (byteL z 0) := World.ownsRow.alloc hq0 _
    have hb0 : Below w.heap.size w ((w.alloc (.cells #[] 29)).alloc (.cells #[] 3)) := ((Below.refl _ _).alloc (Nat.le_refl _) _).alloc (by simp) _
    have hzz := hide hsrc.1
    have hsr := hsrc.2
    have Hm := hide hm
    clear hsrc hq0 hsz1 hm
    go_enter Try.func11, Try.ntmps11
    go_wp2_with fail
    go_loopw [3, 4, 5] (fun v u i wr => ∃ k : Nat, k ≤ len ∧ k ≤ 60 ∧ i = .int .i64 k ∧ Pcs wr w.heap.size v (byteL z k) ∧ IOwn wr w.heap.size u (bitsOf (byteL z k)) ∧ Below w.heap.size w wr) (fun _ _ i _ => len - (intOf i).toNat)
    case atStart => exact ⟨0, Nat.zero_le _, by omega, rfl, hq1, hI0, hb0⟩
    case round =>
      obtain ⟨k, hk, hk60, rfl, hq, hI, hbel⟩ := hrel
      clear hq1 hI0 hb0
      have hbs := hbel.size
      have HK := hide hk
      have HK6 := hide hk60
      have hlb : Hid ((bitsOf (byteL z k)).length = k) := by show (bitsOf (byteL z k)).length = k; rw [bitsOf_len, byteL_len]
      by_cases hlt : k < len ∧ k < 60
      · obtain ⟨ab, ao, rfl, hab, hcc⟩ := hsr (by omega)
        have hck := hcc k hlt.1
        have c0 := (hbel.cell (p := ⟨ab, ao + k, none⟩) hab).trans hck
        have z0 := (unhide hzz k).1
        have z1 := (unhide hzz k).2
        have hk1 : (k : Int) < (len : Int) := by omega
        have hk2 : (k : Int) < 60 := by omega
        have Hlt := hide hlt
        have hsn := hide (byteL_succ z k)
        have hsb := hide (byteL_bits z k)
        have hwz : IntKind.i64.wrap (z k) = z k := wrap_id _ (by omega) (by omega)
        have HZ := hide hzz
        clear hcc hck hsr hk hk60 hlt hzz
        generalize hzk : z k = y at *
        clear hzk
        have hlk : Hid ((byteL z k).length = k) := byteL_len z k
        go_wp2_with (first
          | (at_builtin; refine wpList_append_own _ rfl (.tmp 25) (.tmp 32) 23 rfl w.heap.size 29 j0 (.agg #[.int .i64 0, .int .i64 0]) 2 16 Try.underlying23 hj hy0 hy1 hy2 rfl (by decide) u3 k _ rfl (World.ownsRow.alloc (hq.own (unhide hlk)) _) ⟨wr.heap.size, 0, none⟩ 1 1 [.int .i64 y, .int .i64 8] rfl rfl (two_cells _ _ _ _) (two_one _ _) (by have := unhide Hlt; unfold maxLen; omega) (by have := unhide Hlt; omega) (by simp; omega) ?_; intro v' x6 hown hgrow hnil; clear hnil; have hq6 := pcs_snocN (unhide hlk) hown; have hI6 : IOwn x6 w.heap.size u4 (bitsOf (byteL z k)) := (World.ownsRow.alloc hI _).kept hgrow (type_apart hI hq (by decide)); have hb6 : Below w.heap.size w x6 := grown_step (v := u3) hgrow hq (Nat.le_refl _) hbs hbel; have hbs6 := hb6.size; clear hown hgrow hq hI hbel c0)
          | (at_builtin; refine wpList_append_own _ rfl (.tmp 34) (.tmp 35) 27 rfl w.heap.size 3 i0 (.int .i64 0) 1 8 Try.underlying27 hi hz0 hz1 hz2 rfl (by decide) u4 k _ rfl (World.ownsRow.alloc (hI6.own (unhide hlb)) _) ⟨x6.heap.size, 0, none⟩ 1 1 [.int .i64 8] rfl rfl (by intro j u hj; match j, hj with | 0, hj => simp at hj; subst hj; simp [Addr.add]) (by intro u hu; simp at hu; subst hu; rfl) (by have := unhide Hlt; unfold maxLen; omega) (by have := unhide Hlt; omega) (by simp; omega) ?_; intro v'' x7 hown hgrow hnil; clear hnil; have hI7 := iown_snocN (unhide hlb) hown; have hq7 : Pcs x7 w.heap.size v' (byteL z k ++ [(y, 8)]) := (World.ownsRow.alloc hq6 _).kept hgrow (type_apart hq6 hI6 (by decide)); have hb7 : Below w.heap.size w x7 := grown_step (v := u4) hgrow hI6 (Nat.le_refl _) hbs6 hb6; clear hown hgrow hq6 hI6 hb6))
        rw [← unhide hsn] at hq7
        rw [← unhide hsb] at hI7
        go_wp2
        go_roundw
        case rel => exact ⟨k + 1, by have := unhide Hlt; omega, by have := unhide Hlt; omega, by go_num, hq7, hI7, hb7⟩
        case measure => simp [intOf]; have := unhide Hlt; omega
      · have hcase : ((k : Int) < (len : Int) ∧ ¬ (k : Int) < 60) ∨ ¬ (k : Int) < (len : Int) := by omega
        have hzv := unhide hzz
        obtain ⟨B, hB⟩ : ∃ B : ByteArray, B.data.toList = byteB z k := ⟨⟨(byteB z k).toArray⟩, by simp⟩
        have hBs : B.size = k := by rw [← size_list, hB, byteB_len]
        obtain ⟨hlok, hput⟩ := byteL_put z hzv k hk60
        have HP : Hid (putS (byteL z k) = B.data.toList) := hput.trans hB.symm
        have hgp := get_put hlok
        rw [hput, ← hB] at hgp
        have HGP := hide hgp
        have hnl : Hid ((numsOf (byteL z k)).length = k) := by show (numsOf (byteL z k)).length = k; rw [numsOf_len, byteL_len]
        have hlk : Hid ((byteL z k).length = k) := byteL_len z k
        have hBI : (B.size : Int) = (k : Int) := by omega
        have hkI : (k : Int) ≤ 60 := by omega
        have HBG := hide (fun j (h : j < B.size) => byteB_get z hzv j k B hB h)
        have HZ := hide hzv
        have HBs := hide hBs
        have Hcase := hide hcase
        obtain ⟨va, vc, rfl⟩ := hq.formN (unhide hlk)
        obtain ⟨ua, uc, rfl⟩ := hI.formN (unhide hlb)
        clear hlok hput hgp hB hBs hzv hzz hlt hk hk60 hcase
        rcases unhide Hcase with ⟨hA, hA6⟩ | hA
        all_goals
          clear Hcase
          go_wp2_with fail
          refine (implPut_n2 _ _ _ (byteL z k) B _ (unhide hlk) (hq.rowN (unhide hlk)) (by have := unhide HK6; omega) (unhide HP)).mono ?_
          rintro e y1 ⟨rfl, hb1⟩
          have hq1 := hq.later hb1 (Nat.le_refl _)
          have hI1 := hI.later hb1 (Nat.le_refl _)
          go_wp2_with fail
          refine (implGet_yes B _ _ _ (bitsOf (byteL z k)) (numsOf (byteL z k)) _ (unhide hlb) (hI1.rowN (unhide hlb)) (by have := unhide HBs; have := unhide HK6; omega) (by rw [unhide hlb]; have := unhide HK6; omega) (unhide HGP) (unhide hnl)).mono ?_
          rintro e y2 ⟨⟨xa, xc, rfl, hx⟩, hb2⟩
          have hq2 := hq1.later hb2 (Nat.le_refl _)
          have hrow := hx.rowN (unhide hnl)
          have hbel2 := bnext (bnext hbel hb1) hb2
          clear hq hI hq1 hI1 hb1 hb2 hx hbel
          go_wp2_with fail
          go_loopw [9] (fun i wr => ∃ j : Nat, j ≤ k ∧ i = .int .i64 j ∧ Below y2.heap.size y2 wr) (fun i _ => k - (intOf i).toNat)
          case atStart => exact ⟨0, Nat.zero_le _, rfl, Below.refl _ _⟩
          case round =>
            obtain ⟨j, hj', rfl, hbel⟩ := hrel
            have HJ := hide hj'
            by_cases hjk : j < k
            · have hjB : j < B.size := by have := unhide HBs; omega
              have hBj := unhide HBG j hjB
              obtain ⟨g1, o1, rfl, hg1, hc1⟩ := (hrow.later hbel) (by rw [unhide hnl]; omega)
              have c1 := hc1 j (by rw [unhide hnl]; exact hjk)
              rw [numsOf_byte z j k hjk] at c1
              obtain ⟨ab, ao, rfl, hab, hcc⟩ := hsr (by have := unhide HK; omega)
              have hck := hcc j (by have := unhide HK; omega)
              have c0 := ((hbel2.trans (hbel.mono hbel2.size)).cell (p := ⟨ab, ao + j, none⟩) hab).trans hck
              have z0 := (unhide HZ j).1
              have z1 := (unhide HZ j).2
              have hwz : IntKind.i64.wrap (z j) = z j := wrap_id _ (by omega) (by omega)
              have j0 : (0 : Int) ≤ (j : Int) := by omega
              have j1 : (j : Int) < (k : Int) := by omega
              have j2 : (j : Int) < (len : Int) := by have := unhide HK; omega
              have j3 : (j : Int) < (B.size : Int) := by omega
              have hne1 : (((B[j]).toNat : Int) != z j) = false := by rw [hBj]; simp
              clear hc1 hcc hck hj'
              generalize z j = y at *
              go_wp2_with fail
              go_quiet (fail)
              go_wp2
              go_roundw
              case rel => exact ⟨j + 1, by omega, by go_num, below_drewN hbel _⟩
              case measure => simp [intOf]; omega
            · have hq3 := hq2.later hbel (Nat.le_refl _)
              have hbel3 := bnext hbel2 hbel
              have hjk' : (j : Int) = (k : Int) := by omega
              clear hq2 hbel hbel2 hrow
              go_wp2_with fail
              refine (specPut_n2 _ _ _ (byteL z k) B _ (unhide hlk) (hq3.rowN (unhide hlk)) (by have := unhide HK6; omega) (unhide HP)).mono ?_
              rintro e y3 ⟨rfl, hb3⟩
              go_wp2
              go_ret
              exact ⟨ret_bool (by simp), bnext hbel3 hb3⟩
  · go_enter Try.func11, Try.ntmps11
    go_wp2
    go_ret
    exact ⟨rfl, Below.refl _ _⟩

end Go.Proofs.Ytmhpfnknamimbaa
