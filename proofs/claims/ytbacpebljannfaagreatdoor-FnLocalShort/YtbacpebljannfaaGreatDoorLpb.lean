/- The walk of the law that a file takes no more than its head, its name and its text. -/
import Derived.Test.YtbacpebljannfaaGreatDoorM23
import Derived.Test.YtbacpebljannfaaGreatDoorM15
import Derived.Test.YtbacpebljannfaaGreatDoorM19
import Derived.Test.YtbacpebljannfaaGreatDoorM6
import Derived.Lib.QuietBelow
namespace Go.Proofs.YtbacpebljannfaaGreatDoor
open Go.RowKit Corb
set_option maxRecDepth 100000
theorem local_list (n t : ByteArray) (N : Nat) : (localB n t N).data.toList = (headB (howN t) N (crcMore 0 t.data.toList) (bodyB t).size t.size n).data.toList ++ (bodyB t).data.toList := by
  unfold localB; simp
theorem body_small (t : ByteArray) : (bodyB t).size ≤ t.size := by unfold bodyB; split <;> omega
theorem how_small (t : ByteArray) : howN t ≤ 8 := by unfold howN; split <;> omega
theorem ba_of_list {a b : ByteArray} (h : a.data.toList = b.data.toList) : a = b := ByteArray.ext (Array.toList_inj.1 h)
theorem local_facts {n t : ByteArray} {N : Nat} (hN : N < 4294967296) (hn : n.size < 65536) (ht : t.size < 4294967296) :
    (localB n t N).size = 30 + n.size + (bodyB t).size ∧ wd (localB n t N).data.toList 14 4 = crcMore 0 t.data.toList ∧ wd (localB n t N).data.toList 22 4 = t.size ∧ (localB n t N).extract 30 (30 + n.size) = n := by
  have hb := body_small t
  have hh := how_small t
  obtain ⟨_, _, _, r3, _, r5, _, r7, _⟩ := head_reads (how := howN t) (st := N) (crc := crcMore 0 t.data.toList) (pk := (bodyB t).size) (lg := t.size) (nm := n) (bodyB t).data.toList (by omega) hN (crcMore_lt _ _ (by omega)) (by omega) ht hn
  rw [← local_list] at r3 r5 r7
  refine ⟨?_, r3, r5, ba_of_list ?_⟩
  · unfold localB headB
    rw [ByteArray.size_append, ByteArray.size_append, ByteArray.size_append, toldB_size]
    show 4 + 26 + _ + _ = _
    omega
  · rw [ext_list, Nat.add_sub_cancel_left, r7]
set_option maxHeartbeats 3200000 in
theorem fnLocalShort_walk (a : Option Addr) (len cap : Nat) (zs : List Int) (m : Int) (w : World) (w0 : IsRow .u8 w a len cap zs) (hm : w.cell? ⟨1, 0, none⟩ = some (.int .i64 m)) (hO : OrdC w) :
    Calls Tryz.prog 4 #[.slice a len cap] w fun e w' => e = .returned (.bool true) ∧ Below w.heap.size w w' := by
  have hmix : Tryz.prog.follows .mixedOrders = true := by kernel_rfl
  obtain ⟨⟨z, hsrc⟩, hc, hlen⟩ := src_of w0
  have hlen' := hide hlen
  have HM := hide hm
  have hmb := hide (World.block_lt_of_cell? _ _ hm)
  have CM := hide (fun W (hb : Below w.heap.size w W) => (hb.cell (p := ⟨1, 0, none⟩) (unhide hmb)).trans (unhide HM))
  have HO := hide (fun W (hb : Below w.heap.size w W) => hO.later hb)
  unfold maxLen at hlen
  clear w0 hm hO
  by_cases hl : (len : Int) ≤ 1048576
  · go_enter Tryz.func4, Tryz.ntmps4
    go_wp2_with fail
    refine (drawLocalPut_any a len cap z _ hsrc hc (unhide hlen')).mono ?_
    rintro e x1 ⟨n, y, mo, d, h, mi, s, t, rfl, ⟨hn, ht⟩, hb1⟩
    have HN : Hid (n.size ≤ 1048576) := by show _ ≤ _; omega
    have htI : (t.size : Int) ≤ 9223372036854775807 := by omega
    have HB1 := hide (hb1.alloc hb1.size (.cells #[.string n, .int .i64 y, .int .i64 mo, .int .i64 d, .int .i64 h, .int .i64 mi, .int .i64 s, .string t] 30))
    have HS1 := hide hb1.size
    have CI := hide (fun W (hb : Below w.heap.size w W) => implLocalPut_any n y mo d h mi s t m W (unhide HN) htI (unhide CM _ hb) (unhide HO _ hb))
    have CS := hide (fun W => specLocalPut_any n y mo d h mi s t W (unhide HN) htI)
    have HF : Hid (localP n y mo d h mi s t = ⟨#[]⟩ ∨ ∃ S : ByteArray, localP n y mo d h mi s t = S ∧ S.size = 30 + n.size + (bodyB t).size ∧ wd S.data.toList 14 4 = crcMore 0 t.data.toList ∧ wd S.data.toList 22 4 = t.size ∧ S.extract 30 (30 + n.size) = n ∧ S.size ≤ 400) := by
      show _ ∨ _
      cases hk : entB n y mo d h mi s t
      · left; simp [localP, hk]
      · right
        obtain ⟨f1, f2, f3⟩ := ent_facts hk
        obtain ⟨g1, g2, g3, g4⟩ := st_facts f3
        have e : localP n y mo d h mi s t = localB n t (stN y mo d h mi s).toNat := by simp [localP, hk]
        obtain ⟨h1, h2, h3, h4⟩ := local_facts (n := n) (t := t) g3 (by omega) (by omega)
        have hb := body_small t
        exact ⟨_, e, h1, h2, h3, h4, by omega⟩
    have HCr := hide (fun W => implCrc_any t W (by unfold maxLen; omega))
    have hcr : crcMore 0 t.data.toList < 4294967296 := crcMore_lt _ _ (by omega)
    have hnI : (n.size : Int) ≤ 100 := by omega
    have htI' : (t.size : Int) ≤ 400 := by omega
    clear hn ht hsrc hb1 htI
    rcases unhide HF with hP | ⟨S, hP, k1, k2, k3, k4, k5⟩
    · rw [hP] at CI CS
      clear HF hP HCr hcr
      go_wp2_with fail
      refine (unhide CI _ (unhide HB1)).mono ?_
      rintro e x2 ⟨rfl, hb2⟩
      have HX2 := hide (ent_call hb2).1
      have HB2 := hide ((unhide HB1).trans (hb2.mono (Nat.le_trans (unhide HS1) (by simp))))
      clear hb2 HB1
      obtain ⟨⟨c0, c1, c2, c3, c4, c5, c6, c7⟩, _, _⟩ := unhide HX2
      go_wp2_with fail
      refine (unhide CS _).mono ?_
      rintro e x3 ⟨rfl, hb3⟩
      have HX3 := hide ((unhide HX2).later hb3 (unhide HX2).2.2)
      have HB3 := hide (bnext (unhide HB2) hb3)
      clear hb3 HX2 HB2 c0 c1 c2 c3 c4 c5 c6 c7
      obtain ⟨⟨c0, c1, c2, c3, c4, c5, c6, c7⟩, _, _⟩ := unhide HX3
      go_wp2_with fail
      refine (unhide CS _).mono ?_
      rintro e x4 ⟨rfl, hb4⟩
      have HB4 := hide (bnext (unhide HB3) hb4)
      clear hb4
      go_wp2
      go_ret
      exact ⟨rfl, unhide HB4⟩
    · rw [hP] at CI CS
      have hE : S.toList.isEmpty = false := by
        rw [Lib.toList_data]
        have : S.data.toList.length = S.size := by simp
        cases hq : S.data.toList with
        | nil => rw [hq] at this; simp at this; omega
        | cons _ _ => rfl
      have K1 := hide k1
      have K2 := hide k2
      have K3 := hide k3
      have K4 := hide k4
      have hSI : (S.size : Int) ≤ 400 := by omega
      have hS30 : 30 + (n.size : Int) ≤ (S.size : Int) := by omega
      clear HF hP k1 k2 k3 k4 k5
      go_wp2_with fail
      refine (unhide CI _ (unhide HB1)).mono ?_
      rintro e x2 ⟨rfl, hb2⟩
      have HX2 := hide (ent_call hb2).1
      have HB2 := hide ((unhide HB1).trans (hb2.mono (Nat.le_trans (unhide HS1) (by simp))))
      clear hb2 HB1
      obtain ⟨⟨c0, c1, c2, c3, c4, c5, c6, c7⟩, _, _⟩ := unhide HX2
      go_wp2_with fail
      refine (unhide CS _).mono ?_
      rintro e x3 ⟨rfl, hb3⟩
      have HX3 := hide ((unhide HX2).later hb3 (unhide HX2).2.2)
      have HB3 := hide (bnext (unhide HB2) hb3)
      clear hb3 HX2 HB2 c0 c1 c2 c3 c4 c5 c6 c7
      go_wp2_with fail
      go_loopw [5, 6, 7] (fun x l i wr => ∃ q j : Nat, q + j = 4 ∧ i = .int .i64 ((q : Int) - 1) ∧ x = .int .i64 ((wd S.data.toList (14 + q) j : Nat) : Int) ∧ l = .int .i64 ((wd S.data.toList (22 + q) j : Nat) : Int) ∧ wr = x3) (fun _ _ i _ => (intOf i + 1).toNat)
      case atStart => exact ⟨4, 0, rfl, rfl, by simp [wd, valB], by simp [wd, valB], rfl⟩
      case round =>
        obtain ⟨q, j, hqj, rfl, rfl, rfl, rfl⟩ := hrel
        rcases q with _ | q
        · obtain rfl : j = 4 := by omega
          rw [show 14 + 0 = 14 from rfl, show 22 + 0 = 22 from rfl, unhide K2, unhide K3]
          go_wp2_with fail
          obtain ⟨⟨c0, c1, c2, c3, c4, c5, c6, c7⟩, _, _⟩ := unhide HX3
          have k0 := cell_regrown c0
          have k7 := cell_regrown c7
          have cCr := fun d os => Calls.regrown_of (w := wr) (d := d) (os := os) (unhide HCr _)
          have hx4 := unhide K4
          have hn0 : 0 ≤ 30 + (n.size : Int) := by omega
          have hn1 : 30 ≤ 30 + (n.size : Int) := by omega
          have hn2 : IntKind.i64.wrap (30 + (n.size : Int)) = 30 + (n.size : Int) := by rw [IntKind.wrap_i64]; omega
          have hn3 : (30 + (n.size : Int)).toNat = 30 + n.size := by omega
          clear c0 c1 c2 c3 c4 c5 c6 c7
          refine wp_region_quiet_below hmix (by kernel_rfl) ?_
          repeat (quiet_step (exact cCr _ _))
          refine wpQuiet_nil ?_
          intro zw hw'
          obtain ⟨⟨dq, osq⟩, hw2⟩ := hw'
          have HZ := below_regrown wr dq osq
          rw [← hw2] at HZ
          have BZ := hide (bnext (unhide HB3) HZ)
          clear hw2 HZ k0 k7 cCr
          go_wp2
          go_ret
          exact ⟨rfl, unhide BZ⟩
        · have hz : 30 ≤ S.size := by omega
          have b1 : 14 + q < S.size := by omega
          have b2 : 22 + q < S.size := by omega
          have HE1 := hide (wd_step S j b1)
          have HE2 := hide (wd_step S j b2)
          have hj : 2 ^ (8 * j) ≤ 16777216 := by
            have : 8 * j ≤ 24 := by omega
            exact Nat.le_trans (Nat.pow_le_pow_right (by decide) this) (by decide)
          have hX : wd S.data.toList (14 + q + 1) j < 16777216 := Nat.lt_of_lt_of_le (wd_lt _ _ _) hj
          have hY : wd S.data.toList (22 + q + 1) j < 16777216 := Nat.lt_of_lt_of_le (wd_lt _ _ _) hj
          have e1 : ((q + 1 : Nat) : Int) - 1 = (q : Int) := by omega
          rw [e1, show 14 + (q + 1) = 14 + q + 1 from rfl, show 22 + (q + 1) = 22 + q + 1 from rfl]
          generalize wd S.data.toList (14 + q + 1) j = X at *
          generalize wd S.data.toList (22 + q + 1) j = Y at *
          have hXI : (X : Int) < 16777216 := by omega
          have hYI : (Y : Int) < 16777216 := by omega
          have hqI : (q : Int) < 4 := by omega
          have hq3 : 0 ≤ 14 + (q : Int) := by omega
          have hq4 : 0 ≤ 22 + (q : Int) := by omega
          have hq1 : 14 + (q : Int) < (S.size : Int) := by omega
          have hq2 : 22 + (q : Int) < (S.size : Int) := by omega
          have HQ := hide hqj
          clear hX hY e1 hj hqj hz
          go_wp2
          go_roundw
          case rel => exact ⟨q, j + 1, by have := unhide HQ; omega, by go_num, by rw [unhide HE1, wrap_step hXI], by rw [unhide HE2, wrap_step hYI], trivial⟩
          case measure => simp [intOf]
  · go_enter Tryz.func4, Tryz.ntmps4
    go_wp2
    go_ret
    exact ⟨rfl, Below.refl _ _⟩
end Go.Proofs.YtbacpebljannfaaGreatDoor