/- Of what the proof is made: 7 texts, one behind the other. -/
import Derived.Test.YtbacpebljannfaaGreatDoorM18
import Derived.Test.YtbacpebljannfaaGreatDoorM30
import Derived.Test.YtbacpebljannfaaGreatDoorM24
import Derived.Test.YtbacpebljannfaaGreatDoorM2
import Derived.Lib.QuietBelow
import Derived.Test.YtbacpebljannfaaGreatDoorLpb
import Derived.Test.YtbacpebljannfaaGreatDoorM28
import Derived.Test.YtbacpebljannfaaGreatDoorShelf
import Derived.Test.YtbacpebljannfaaGreatDoorRp1
import Derived.Test.YtbacpebljannfaaGreatDoorM5
import Derived.Test.YtbacpebljannfaaGreatDoorM4
import Derived.Test.YtbacpebljannfaaGreatDoorM29
namespace Go.Proofs.YtbacpebljannfaaGreatDoor
open Go.RowKit Corb
set_option maxRecDepth 100000
def RdS (w W : World) : Prop := Below w.heap.size w W ∧ Blk W w.heap.size [.string ⟨#[]⟩, .int .i64 0, .int .i64 0, .int .i64 0, .int .i64 0, .int .i64 0, .int .i64 0, .string ⟨#[]⟩]
theorem RdS.later {w W W' : World} (k : RdS w W) (hb : Below W.heap.size W W') : RdS w W' := ⟨bnext k.1 hb, k.2.later hb k.2.1⟩
theorem RdS.drew {w W : World} (k : RdS w W) : RdS w W.drew := ⟨k.1.drew, k.2.drew⟩
theorem RdS.set {w W : World} (k : RdS w W) {A : Nat} (hA : w.heap.size < A) (o : Nat) (v : Value) : RdS w (W.setCell ⟨A, o, none⟩ v) := ⟨below_set k.1 (Nat.le_of_lt hA) _, k.2.set_other v (by omega)⟩
theorem hd_no {s : ByteArray} (h : hdB s = false) : locV s = .tuple #[noE, .int .i64 0, .bool false] := by simp [locV, locG, h]
theorem loc_is {s : ByteArray} (h : hdB s = true) : locV s = if ((txO (wd s.data.toList 8 2) (bdB s) && (decide (wd s.data.toList 14 4 = crcMore 0 (txT (wd s.data.toList 8 2) (bdB s)).data.toList) && decide (wd s.data.toList 22 4 = (txT (wd s.data.toList 8 2) (bdB s)).size))) && entG s (txT (wd s.data.toList 8 2) (bdB s))) = true then .tuple #[locE s (txT (wd s.data.toList 8 2) (bdB s)), .int .i64 ((30 + wd s.data.toList 26 2 + wd s.data.toList 18 4 : Nat) : Int), .bool true] else .tuple #[noE, .int .i64 0, .bool false] := by
  unfold locV locG
  rw [if_pos h, unp_tx]
  cases ho : txO (wd s.data.toList 8 2) (bdB s)
  · simp
  · simp only [if_true, fitB]
    by_cases c1 : wd s.data.toList 14 4 = crcMore 0 (txT (wd s.data.toList 8 2) (bdB s)).data.toList
    · by_cases c2 : wd s.data.toList 22 4 = (txT (wd s.data.toList 8 2) (bdB s)).size
      · by_cases c3 : entG s (txT (wd s.data.toList 8 2) (bdB s)) = true <;> simp [c1, c2, c3]
      · simp [c2]
    · simp [c1]
end Go.Proofs.YtbacpebljannfaaGreatDoor
namespace Go.Proofs.YtbacpebljannfaaGreatDoor
open Corb
theorem unp_back (t : ByteArray) (ht : t.size ≤ 300) : unpB (howN t) (bodyB t) = some t := by
  unfold howN bodyB unpB
  split
  · rw [if_neg (by decide), if_pos rfl, (flate_best t ht).1]
    simp
  · simp
theorem st_back {y mo d h mi s : Int} (k : stOk y mo d h mi s = true) : gY (stN y mo d h mi s) = y ∧ gM (stN y mo d h mi s) = mo ∧ gD (stN y mo d h mi s) = d ∧ gH (stN y mo d h mi s) = h ∧ gI (stN y mo d h mi s) = mi ∧ gS (stN y mo d h mi s) = s := by
  obtain ⟨⟨a0, a1⟩, ⟨b0, b1⟩, ⟨c0, _, c1⟩, ⟨d0, d1⟩, ⟨e0, e1⟩, ⟨f0, f1⟩, f2⟩ := st_bd k
  simp only [gY, gM, gD, gH, gI, gS, stN]
  omega
theorem local_reads {n t : ByteArray} {N : Nat} (hN : N < 4294967296) (hn : n.size < 65536) (ht : t.size < 4294967296) (r : ByteArray) :
    hdB (localB n t N ++ r) = true ∧ wd (localB n t N ++ r).data.toList 8 2 = howN t ∧ wd (localB n t N ++ r).data.toList 10 4 = N ∧ wd (localB n t N ++ r).data.toList 14 4 = crcMore 0 t.data.toList ∧ wd (localB n t N ++ r).data.toList 18 4 = (bodyB t).size ∧ wd (localB n t N ++ r).data.toList 22 4 = t.size ∧ wd (localB n t N ++ r).data.toList 26 2 = n.size ∧ nmB (localB n t N ++ r) = n ∧ bdB (localB n t N ++ r) = bodyB t := by
  have hb := body_small t
  have hh := how_small t
  have hz := (local_facts hN hn ht).1
  have e : (localB n t N ++ r).data.toList = (headB (howN t) N (crcMore 0 t.data.toList) (bodyB t).size t.size n).data.toList ++ ((bodyB t).data.toList ++ r.data.toList) := by
    rw [show (localB n t N ++ r).data.toList = (localB n t N).data.toList ++ r.data.toList by simp, local_list, List.append_assoc]
  obtain ⟨r0, r1, r2, r3, r4, r5, r6, r7, r8⟩ := head_reads (how := howN t) (st := N) (crc := crcMore 0 t.data.toList) (pk := (bodyB t).size) (lg := t.size) (nm := n) ((bodyB t).data.toList ++ r.data.toList) (by omega) hN (crcMore_lt _ _ (by omega)) (by omega) ht hn
  rw [← e] at r0 r1 r2 r3 r4 r5 r6 r7 r8
  refine ⟨hdB_is.2 ⟨?_, r0, ?_⟩, r1, r2, r3, r4, r5, r6, ba_of_list ?_, ba_of_list ?_⟩
  · rw [ByteArray.size_append]; omega
  · rw [r6, r4, ByteArray.size_append]; omega
  · rw [nmB_list, r6, r7]
  · rw [bdB_list, r6, r4, r8, List.take_append_of_le_length (by simp), List.take_of_length_le (by simp)]
theorem local_back {n t : ByteArray} {y mo d h mi s : Int} (k : entB n y mo d h mi s t = true) (r : ByteArray) :
    locV (localP n y mo d h mi s t ++ r) = .tuple #[.agg #[.string n, .int .i64 y, .int .i64 mo, .int .i64 d, .int .i64 h, .int .i64 mi, .int .i64 s, .string t], .int .i64 ((localP n y mo d h mi s t).size : Nat), .bool true] := by
  obtain ⟨f1, f2, f3⟩ := ent_facts k
  obtain ⟨g1, g2, g3, g4⟩ := st_facts f3
  have e : localP n y mo d h mi s t = localB n t (stN y mo d h mi s).toNat := by simp [localP, k]
  have e2 : (((stN y mo d h mi s).toNat : Nat) : Int) = stN y mo d h mi s := by rw [← g4]; simp [stI, f3]
  have hz := (local_facts (n := n) (t := t) g3 (by omega) (by omega)).1
  obtain ⟨r0, r1, r2, r3, r4, r5, r6, r7, r8⟩ := local_reads (n := n) (t := t) g3 (by omega) (by omega) r
  obtain ⟨s0, s1, s2, s3, s4, s5⟩ := st_back f3
  rw [e]
  have hG : locG (localB n t (stN y mo d h mi s).toNat ++ r) = some t := by
    unfold locG
    rw [if_pos r0, r1, r8, unp_back t f2]
    simp only
    rw [if_pos]
    unfold fitB entG
    rw [r3, r5, r2, r7, e2, s0, s1, s2, s3, s4, s5, k]
    simp
  unfold locV
  rw [hG]
  simp only
  unfold locE
  rw [r7, r2, e2, s0, s1, s2, s3, s4, s5, r6, r4, hz]
end Go.Proofs.YtbacpebljannfaaGreatDoor
namespace Go.Proofs.YtbacpebljannfaaGreatDoor
open Go.RowKit Corb
set_option maxRecDepth 100000
def Wds (W : World) (B g c : Nat) (s : ByteArray) : Prop := Blk W B [.slice (some ⟨g, 0, none⟩) 15 c] ∧ g < W.heap.size ∧ ∀ j, j < 15 → W.cell? ⟨g, j, none⟩ = some (.int .i64 ((wd s.data.toList (2 * j) 2 : Nat) : Int))
theorem Wds.later {W W' : World} {B g c : Nat} {s : ByteArray} (h : Wds W B g c s) (hb : Below W.heap.size W W') : Wds W' B g c s :=
  ⟨h.1.later hb h.1.1, Nat.lt_of_lt_of_le h.2.1 hb.size, fun j hj => (hb.cell (p := ⟨g, j, none⟩) h.2.1).trans (h.2.2 j hj)⟩
theorem Wds.drew {W : World} {B g c : Nat} {s : ByteArray} (h : Wds W B g c s) : Wds W.drew B g c s := h
theorem Wds.set {W : World} {B g c A : Nat} {s : ByteArray} (h : Wds W B g c s) (h1 : B ≠ A) (h2 : g ≠ A) (o : Nat) (v : Value) : Wds (W.setCell ⟨A, o, none⟩ v) B g c s :=
  ⟨h.1.set_other v h1, by simpa using h.2.1, fun j hj => (World.cell?_of_block (w := W) (Below.heap_setCell W ⟨A, o, none⟩ v g h2)).trans (h.2.2 j hj)⟩
theorem longW {x y : Nat} (hx : x < 65536) (hy : y < 65536) : bits .or .i64 (x : Int) ((y : Int) * 65536) = ((x + 65536 * y : Nat) : Int) := by
  rw [or_join' 16 (x : Int) ((y : Int) * 65536) (by omega) (by omega) (by omega) (by omega) (by omega) (by omega)]
  omega
set_option maxHeartbeats 1600000 in
theorem longAt_any (k B g c : Nat) (s : ByteArray) (w : World) (h : Wds w B g c s) (hk : k + 1 < 15) (hl : 30 ≤ s.size) :
    Calls Tryz.prog 58 #[.int .i64 (k : Int), .pointer (some ⟨B, 0, none⟩)] w fun e w' => e = .returned (.int .i64 ((wd s.data.toList (2 * k) 4 : Nat) : Int)) ∧ Below w.heap.size w w' := by
  have hmix : Tryz.prog.follows .mixedOrders = true := by kernel_rfl
  have c1 := h.1.cell 0 _ rfl
  have c2 := h.2.2 k (by omega)
  have c3 := h.2.2 (k + 1) hk
  have hkI : (k : Int) + 1 < 15 := by omega
  have hk0 : 0 ≤ (k : Int) + 1 := by omega
  have hX := wd_two s.data.toList (2 * k)
  have hY := wd_two s.data.toList (2 * (k + 1))
  have HE : Hid (∀ hl : 2 * k + 2 ≤ s.data.toList.length, wd s.data.toList (2 * k) 4 = wd s.data.toList (2 * k) 2 + 65536 * wd s.data.toList (2 * (k + 1)) 2) := fun hl => wd_22 hl
  generalize wd s.data.toList (2 * k) 2 = X at *
  generalize wd s.data.toList (2 * (k + 1)) 2 = Y at *
  have HW := hide (longW hX hY)
  have hXI : (X : Int) < 65536 := by omega
  have hYI : (Y : Int) < 65536 := by omega
  clear h hX hY
  go_enter Tryz.func58, Tryz.ntmps58
  go_wp2_with fail
  go_quiet (fail)
  go_wp2
  go_ret
  exact ⟨ret_int (by rw [unhide HW, unhide HE (by simp; omega)]), below_drewN (Below.refl _ _) _⟩
theorem sClone_any (s : ByteArray) (w : World) (hs : s.size ≤ 281474976710656) :
    Calls Tryz.prog 62 #[.string s] w fun e w' => e = .returned (.string s) ∧ Below w.heap.size w w' := by
  go_enter Tryz.func62, Tryz.ntmps62
  go_wp2_with fail
  refine (Tryz.stringslite_Clone s _ hs).mono ?_
  rintro e x1 ⟨rfl, hb1⟩
  go_wp2
  go_ret
  exact ⟨rfl, hb1⟩
def uxT (how : Nat) (b : ByteArray) : ByteArray := if how = 0 ∨ how = 8 then txT how b else ⟨#[]⟩
theorem ux_small {how : Nat} {b : ByteArray} (hb : b.size ≤ 1048576) : (uxT how b).size ≤ 1048576 := by
  unfold uxT
  split
  · exact tx_small hb
  · exact Nat.zero_le _
theorem ux_yes {how : Nat} {b : ByteArray} (h : txO how b = true) : uxT how b = txT how b := by
  unfold uxT
  rw [if_pos]
  unfold txO unpB at h
  by_cases h0 : how = 0
  · exact .inl h0
  · rw [if_neg h0] at h
    by_cases h8 : how = 8
    · exact .inr h8
    · rw [if_neg h8] at h; cases h
set_option maxHeartbeats 1600000 in
theorem lhUnp_any (how : Nat) (st crc pk lg : Int) (nm b : ByteArray) (w : World) (hb : b.size ≤ 1048576) (hh : how < 65536) (hO : OrdC w) :
    Calls Tryz.prog 60 #[.agg #[.int .i64 (how : Int), .int .i64 st, .int .i64 crc, .int .i64 pk, .int .i64 lg, .string nm, .string b]] w fun e w' => e = .returned (.tuple #[.string (uxT how b), .bool (txO how b)]) ∧ Below w.heap.size w w' := by
  have hmix : Tryz.prog.follows .mixedOrders = true := by kernel_rfl
  have B0 := hide ((Below.refl w.heap.size w).alloc (Nat.le_refl _) (.cells #[.int .i64 (how : Int), .int .i64 st, .int .i64 crc, .int .i64 pk, .int .i64 lg, .string nm, .string b] 48))
  have R0 := hide (blk_alloc w #[.int .i64 (how : Int), .int .i64 st, .int .i64 crc, .int .i64 pk, .int .i64 lg, .string nm, .string b] 48)
  have hhI : (how : Int) < 65536 := by omega
  have hbI : (b.size : Int) ≤ 1048576 := by omega
  by_cases h0 : how = 0
  · subst h0
    have e1 : uxT 0 b = b := by simp [uxT, txT]
    have e2 : txO 0 b = true := by simp [txO, unpB]
    rw [e1, e2]
    have CC := hide (fun W => sClone_any b W (by omega))
    clear hO hb hh e1 e2
    go_enter Tryz.func60, Tryz.ntmps60
    go_wp2_with fail
    refine (unhide CC _).mono ?_
    rintro e x1 ⟨rfl, hb1⟩
    have HB1 := hide (bnext (unhide B0) hb1)
    clear hb1
    go_wp2
    go_ret2
    exact ⟨rfl, unhide HB1⟩
  · by_cases h8 : how = 8
    · subst h8
      have CF := hide (fun W (hO : OrdC W) => implFlateGet_any b W (by omega) hO)
      have HO := hide (hO.later (unhide B0))
      rcases hf : flateG b with _ | ⟨T, q⟩
      · have e1 : uxT 8 b = ⟨#[]⟩ := by simp [uxT, txT, hf]
        have e2 : txO 8 b = false := by simp [txO, unpB, hf]
        rw [hf] at CF
        rw [e1, e2]
        simp only [getV] at CF
        clear hb hh hf e1 e2 h0 hO
        go_enter Tryz.func60, Tryz.ntmps60
        go_wp2_with fail
        refine (unhide CF _ (unhide HO)).mono ?_
        rintro e x1 ⟨rfl, hb1⟩
        have HB1 := hide (bnext (unhide B0) hb1)
        have c6 := ((unhide R0).later hb1 (unhide R0).1).cell 6 _ rfl
        clear hb1
        go_wp2_with fail
        have k6 := cell_regrown c6
        refine wp_region_quiet_below hmix (by kernel_rfl) ?_
        repeat (quiet_step (fail))
        refine wpQuiet_nil ?_
        intro zw hw'
        obtain ⟨⟨dq, osq⟩, hw2⟩ := hw'
        have HZ := below_regrown x1 dq osq
        rw [← hw2] at HZ
        have BZ := hide (bnext (unhide HB1) HZ)
        clear hw2 HZ k6 c6
        go_wp2
        go_ret2
        exact ⟨rfl, unhide BZ⟩
      · obtain ⟨hT, hq⟩ := flateG_bd hf
        have e1 : uxT 8 b = ⟨T.toArray⟩ := by simp [uxT, txT, hf]
        have e2 : txO 8 b = decide (((q / 8 : Nat) : Int) = (b.size : Int)) := by
          unfold txO unpB
          rw [if_neg h0, if_pos rfl, hf]
          by_cases h9 : q / 8 = b.size
          · rw [decide_eq_true (by omega)]; simp [h9]
          · rw [decide_eq_false (by omega)]; simp [h9]
        rw [hf] at CF
        rw [e1, e2]
        simp only [getV] at CF
        have hqI : ((q / 8 : Nat) : Int) ≤ 5600 := by omega
        clear hb hh hf e1 e2 h0 hq hO
        generalize (⟨T.toArray⟩ : ByteArray) = X at *
        generalize q / 8 = q8 at *
        go_enter Tryz.func60, Tryz.ntmps60
        go_wp2_with fail
        refine (unhide CF _ (unhide HO)).mono ?_
        rintro e x1 ⟨rfl, hb1⟩
        have HB1 := hide (bnext (unhide B0) hb1)
        have c6 := ((unhide R0).later hb1 (unhide R0).1).cell 6 _ rfl
        clear hb1
        go_wp2_with fail
        have k6 := cell_regrown c6
        refine wp_region_quiet_below hmix (by kernel_rfl) ?_
        repeat (quiet_step (fail))
        refine wpQuiet_nil ?_
        intro zw hw'
        obtain ⟨⟨dq, osq⟩, hw2⟩ := hw'
        have HZ := below_regrown x1 dq osq
        rw [← hw2] at HZ
        have BZ := hide (bnext (unhide HB1) HZ)
        clear hw2 HZ k6 c6
        go_wp2
        go_ret2
        exact ⟨rfl, unhide BZ⟩
    · have h8b : ((how : Int) == 8) = false := by simp; omega
      have h0b : ((how : Int) == 0) = false := by simp [h0]
      have e1 : uxT how b = ⟨#[]⟩ := by simp [uxT, h0, h8]
      have e2 : txO how b = false := by simp [txO, unpB, h0, h8]
      rw [e1, e2]
      clear hb hh e1 e2 h0 h8 hO
      go_enter Tryz.func60, Tryz.ntmps60
      go_wp2
      go_ret2
      exact ⟨rfl, unhide B0⟩
end Go.Proofs.YtbacpebljannfaaGreatDoor
namespace Go.Proofs.YtbacpebljannfaaGreatDoor
open Go.RowKit Corb
set_option maxRecDepth 100000
def HgS (w W : World) : Prop := Below w.heap.size w W ∧ Blk W w.heap.size [.int .i64 0, .int .i64 0, .int .i64 0, .int .i64 0, .int .i64 0, .string ⟨#[]⟩, .string ⟨#[]⟩]
theorem HgS.later {w W W' : World} (k : HgS w W) (hb : Below W.heap.size W W') : HgS w W' := ⟨bnext k.1 hb, k.2.later hb k.2.1⟩
theorem HgS.drew {w W : World} (k : HgS w W) : HgS w W.drew := ⟨k.1.drew, k.2.drew⟩
theorem HgS.set {w W : World} (k : HgS w W) {A : Nat} (hA : w.heap.size < A) (o : Nat) (v : Value) : HgS w (W.setCell ⟨A, o, none⟩ v) := ⟨below_set k.1 (Nat.le_of_lt hA) _, k.2.set_other v (by omega)⟩
theorem wds_set {W : World} {g A : Nat} {s : ByteArray} (h : g < W.heap.size ∧ ∀ j, j < 15 → W.cell? ⟨g, j, none⟩ = some (.int .i64 ((wd s.data.toList (2 * j) 2 : Nat) : Int))) (hA : g ≠ A) (o : Nat) (v : Value) : g < (W.setCell ⟨A, o, none⟩ v).heap.size ∧ ∀ j, j < 15 → (W.setCell ⟨A, o, none⟩ v).cell? ⟨g, j, none⟩ = some (.int .i64 ((wd s.data.toList (2 * j) 2 : Nat) : Int)) :=
  ⟨by simpa using h.1, fun j hj => (World.cell?_of_block (w := W) (Below.heap_setCell W ⟨A, o, none⟩ v g hA)).trans (h.2 j hj)⟩
theorem headBits_any (s : ByteArray) (a : Option Addr) (w : World) (h : IRow w a (List.replicate 15 16)) (h30 : 30 ≤ s.size) :
    Calls Tryz.prog 56 #[.string (s.extract 0 30), .slice a 15 15] w fun e w' => ∃ g c, e = .returned (.tuple #[.slice (some ⟨g, 0, none⟩) 15 c, .bool true]) ∧ (w.heap.size ≤ g ∧ g < w'.heap.size) ∧ (∀ j, j < 15 → w'.cell? ⟨g, j, none⟩ = some (.int .i64 ((wd s.data.toList (2 * j) 2 : Nat) : Int))) ∧ Below w.heap.size w w' := by
  have e0 : (s.extract 0 30).data.toList = s.data.toList.take 30 := by rw [ext_list, List.drop_zero]
  have hl : 30 ≤ s.data.toList.length := by simpa using h30
  have hz : (s.extract 0 30).size ≤ 2000000 := by rw [ByteArray.size_extract]; omega
  refine (implBitsGet_any (s.extract 0 30) a 15 (List.replicate 15 16) w h hz (by simp)).mono ?_
  rintro e w' ⟨v, rfl, ho, hb⟩
  rw [e0] at ho
  rw [e0, head_ok hl]
  have hn := head_len hl
  obtain ⟨b, c, rfl⟩ := ho.formN hn
  obtain ⟨g, rfl⟩ := ho.somes (by rw [hn]; decide)
  refine ⟨g, c, rfl, ho.below, fun j hj => ?_, hb⟩
  have := (ho.at hn hj).1
  rw [head_words hl j hj] at this
  exact this
def HgP (s : ByteArray) (e : Ending) : Prop :=
  (hdB s = true ∧ e = .returned (.tuple #[.agg #[.int .i64 (wd s.data.toList 8 2 : Nat), .int .i64 (wd s.data.toList 10 4 : Nat), .int .i64 (wd s.data.toList 14 4 : Nat), .int .i64 (wd s.data.toList 18 4 : Nat), .int .i64 (wd s.data.toList 22 4 : Nat), .string (nmB s), .string (bdB s)], .bool true])) ∨
  (hdB s = false ∧ ∃ a b c d f n t, e = .returned (.tuple #[.agg #[.int .i64 a, .int .i64 b, .int .i64 c, .int .i64 d, .int .i64 f, .string n, .string t], .bool false]))
theorem hg_no {s : ByteArray} (h : hdB s = false) (a b c d f : Int) (n t : ByteArray) : HgP s (.returned (.tuple #[.agg #[.int .i64 a, .int .i64 b, .int .i64 c, .int .i64 d, .int .i64 f, .string n, .string t], .bool false])) := .inr ⟨h, a, b, c, d, f, n, t, rfl⟩
set_option maxHeartbeats 12800000 in
theorem localHeadGet_any (s : ByteArray) (w : World) (hs : s.size ≤ 1048576) :
    Calls Tryz.prog 30 #[.string s] w fun e w' => HgP s e ∧ Below w.heap.size w w' := by
  have hmix : Tryz.prog.follows .mixedOrders = true := by kernel_rfl
  have hsI : (s.size : Int) ≤ 1048576 := by omega
  have T0 : Hid (HgS w (w.alloc (.cells #[.int .i64 0, .int .i64 0, .int .i64 0, .int .i64 0, .int .i64 0, .string ⟨#[]⟩, .string ⟨#[]⟩] 48))) := ⟨(Below.refl _ _).alloc (Nat.le_refl _) _, blk_alloc w #[.int .i64 0, .int .i64 0, .int .i64 0, .int .i64 0, .int .i64 0, .string ⟨#[]⟩, .string ⟨#[]⟩] 48⟩
  by_cases h30 : 30 ≤ s.size
  · have hx0 : s.extract 0 30 = s.extract 0 30 := rfl
    obtain ⟨HD, hHD⟩ : ∃ x, s.extract 0 30 = x := ⟨_, rfl⟩
    have CRep : Hid (∀ pb W, W.cell? ⟨pb, 0, none⟩ = some (.int .i64 16) → Calls Tryz.prog 57 #[.slice (some ⟨pb, 0, none⟩) 1 1, .int .i64 15] W fun e w' => e = .returned (.slice (some ⟨W.heap.size, 0, none⟩) 15 15) ∧ IOwn w' W.heap.size (.slice (some ⟨W.heap.size, 0, none⟩) 15 15) (List.replicate 15 16) ∧ Below W.heap.size W w') := fun pb W h => repeat_one 16 15 1 pb 0 W h (by omega) (by omega)
    have CB : Hid (∀ a W, IRow W a (List.replicate 15 16) → Calls Tryz.prog 56 #[.string HD, .slice a 15 15] W fun e w' => ∃ g c, e = .returned (.tuple #[.slice (some ⟨g, 0, none⟩) 15 c, .bool true]) ∧ (W.heap.size ≤ g ∧ g < w'.heap.size) ∧ (∀ j, j < 15 → w'.cell? ⟨g, j, none⟩ = some (.int .i64 ((wd s.data.toList (2 * j) 2 : Nat) : Int))) ∧ Below W.heap.size W w') := by rw [← hHD]; exact fun a W h => headBits_any s a W h h30
    obtain ⟨HW, hHW⟩ : ∃ x, wd s.data.toList 8 2 = x := ⟨_, rfl⟩
    obtain ⟨ST, hST⟩ : ∃ x, wd s.data.toList 10 4 = x := ⟨_, rfl⟩
    obtain ⟨CR, hCR⟩ : ∃ x, wd s.data.toList 14 4 = x := ⟨_, rfl⟩
    obtain ⟨PK, hPK⟩ : ∃ x, wd s.data.toList 18 4 = x := ⟨_, rfl⟩
    obtain ⟨LN, hLN⟩ : ∃ x, wd s.data.toList 22 4 = x := ⟨_, rfl⟩
    obtain ⟨NL, hNL⟩ : ∃ x, wd s.data.toList 26 2 = x := ⟨_, rfl⟩
    have HALL := hide (And.intro hHW (And.intro hST (And.intro hCR (And.intro hPK (And.intro hLN hNL)))))
    have lHW : HW < 65536 := by rw [← hHW]; exact wd_two _ _
    have lST : ST < 4294967296 := by rw [← hST]; exact wd_four _ _
    have lCR : CR < 4294967296 := by rw [← hCR]; exact wd_four _ _
    have lPK : PK < 4294967296 := by rw [← hPK]; exact wd_four _ _
    have lLN : LN < 4294967296 := by rw [← hLN]; exact wd_four _ _
    have lNL : NL < 65536 := by rw [← hNL]; exact wd_two _ _
    have h30I : 30 ≤ (s.size : Int) := by omega
    have h30b : decide ((s.size : Int) < 30) = false := by simp; omega
    have HLT := hide (And.intro lHW (And.intro lST (And.intro lCR (And.intro lPK (And.intro lLN lNL)))))
    have hNLI : (NL : Int) < 65536 := by omega
    have hPKI : (PK : Int) < 4294967296 := by omega
    have H30 := hide h30
    clear hHW hST hCR hPK hLN hNL lHW lST lCR lPK lLN lNL h30 hx0
    go_enter Tryz.func30, Tryz.ntmps30
    go_wp2_with fail
    go_cut [4, 5] (fun v u wx => (∃ B g c, v = .pointer (some ⟨B, 0, none⟩) ∧ w.heap.size < B ∧ w.heap.size < g ∧ HgS w wx ∧ Wds wx B g c s) ∧ u = .bool true)
    case first =>
      obtain ⟨W0, hW0⟩ : ∃ x, w.alloc (.cells #[.int .i64 0, .int .i64 0, .int .i64 0, .int .i64 0, .int .i64 0, .string ⟨#[]⟩, .string ⟨#[]⟩] 48) = x := ⟨_, rfl⟩
      rw [hW0] at T0
      rw [hW0]
      clear hW0
      refine wp_region_held_drew (S := fun _ => True) hmix trivial (fun _ => ?_)
      refine wpAnyH_take (i := 0) (v := .string s) rfl (by kernel_rfl) (by kernel_rfl) (by kernel_rfl) (fun _ _ _ h => h) (Or.inl ⟨by rfl, fun W hSw => by go_simp⟩) trivial ?_
      refine wpAnyH_take (i := 1) (v := .string HD) rfl (by kernel_rfl) (by kernel_rfl) (by kernel_rfl) (fun _ _ _ h => h) (Or.inl ⟨by rfl, fun W hSw => by go_simp⟩) trivial ?_
      have T1 := hide (unhide T0).drew
      clear T0
      generalize W0.drew = W1 at *
      refine wpAnyH_ready (rs := [2, 8]) (by kernel_rfl) (by simp) ?_
      refine AllReadyH.cons rfl (fun K hK => ?_) (AllReadyH.cons rfl (fun K hK => ?_) (AllReadyH.nil))
      · go_simp
        have Bd : Below W1.heap.size W1 (W1.alloc (.cells #[.int .i64 16] 3)) := (Below.refl _ _).alloc (Nat.le_refl _) _
        have T2 := hide ((unhide T1).later Bd)
        have P2 : Hid (Blk (W1.alloc (.cells #[.int .i64 16] 3)) W1.heap.size [.int .i64 16]) := blk_alloc _ _ _
        refine Shut.out hK _ _ trivial (fun _ => ?_)
        clear hK K
        obtain ⟨pb, hpb⟩ : ∃ x, W1.heap.size = x := ⟨_, rfl⟩
        obtain ⟨W2, hW2⟩ : ∃ x, W1.alloc (.cells #[.int .i64 16] 3) = x := ⟨_, rfl⟩
        rw [hW2] at T2
        rw [hpb, hW2] at P2
        rw [hpb, hW2]
        clear Bd hpb hW2 T1
        refine wpAnyH_ready (rs := [3, 8]) (by kernel_rfl) (by simp) ?_
        refine AllReadyH.cons rfl (fun K hK => ?_) (AllReadyH.cons rfl (fun K hK => ?_) (AllReadyH.nil))
        · go_simp
          go_at_call 57
          refine (unhide CRep pb W2 ((unhide P2).cell 0 _ rfl)).mono ?_
          rintro e W3 ⟨rfl, ho, Bd⟩
          have T3 := hide ((unhide T2).later Bd)
          have Q3 := hide (IOwn.rowN (n := 15) (by simp) ho)
          refine Shut.out hK _ _ trivial (fun _ => ?_)
          clear hK K
          obtain ⟨rb, hrb⟩ : ∃ x, W2.heap.size = x := ⟨_, rfl⟩
          rw [hrb] at Q3
          rw [hrb]
          clear ho Bd T2 P2 hrb
          refine wpAnyH_ready (rs := [4, 8]) (by kernel_rfl) (by simp) ?_
          refine AllReadyH.cons rfl (fun K hK => ?_) (AllReadyH.cons rfl (fun K hK => ?_) (AllReadyH.nil))
          · go_simp
            go_at_call 56
            refine (unhide CB (some ⟨rb, 0, none⟩) W3 (unhide Q3)).mono ?_
            rintro e W4 ⟨g, c, rfl, hgl, hcells, Bd⟩
            have T4 := hide ((unhide T3).later Bd)
            have hg0 : w.heap.size < g := Nat.lt_of_lt_of_le (unhide T3).2.1 hgl.1
            have G4 : Hid (g < W4.heap.size ∧ ∀ j, j < 15 → W4.cell? ⟨g, j, none⟩ = some (.int .i64 ((wd s.data.toList (2 * j) 2 : Nat) : Int))) := ⟨hgl.2, hcells⟩
            refine Shut.out hK _ _ trivial (fun _ => ?_)
            clear hK K
            clear hgl hcells Bd T3 Q3
            refine wpAnyH_take (i := 5) (v := .tuple #[.slice (some ⟨g, 0, none⟩) 15 c, .bool true]) rfl (by kernel_rfl) (by kernel_rfl) (by kernel_rfl) (fun _ _ _ h => h) (Or.inl ⟨by rfl, fun W hSw => by go_simp⟩) trivial ?_
            refine wpAnyH_take (i := 6) (v := .slice (some ⟨g, 0, none⟩) 15 c) rfl (by kernel_rfl) (by kernel_rfl) (by kernel_rfl) (fun _ _ _ h => h) (Or.inl ⟨by rfl, fun W hSw => by go_simp⟩) trivial ?_
            refine wpAnyH_take (i := 7) (v := .bool true) rfl (by kernel_rfl) (by kernel_rfl) (by kernel_rfl) (fun _ _ _ h => h) (Or.inl ⟨by rfl, fun W hSw => by go_simp⟩) trivial ?_
            refine wpAnyH_ready (rs := [8]) (by kernel_rfl) (by simp) ?_
            refine AllReadyH.cons rfl (fun K hK => ?_) (AllReadyH.nil)
            go_simp
            have Bd : Below W4.heap.size W4 (W4.alloc (.cells #[.slice none 0 0] 84)) := (Below.refl _ _).alloc (Nat.le_refl _) _
            have T5 := hide ((unhide T4).later Bd)
            have R5 : Hid (Blk (W4.alloc (.cells #[.slice none 0 0] 84)) W4.heap.size [.slice none 0 0]) := blk_alloc _ _ _
            have hA : w.heap.size < W4.heap.size := (unhide T4).2.1
            have G5 : Hid (g < (W4.alloc (.cells #[.slice none 0 0] 84)).heap.size ∧ ∀ j, j < 15 → (W4.alloc (.cells #[.slice none 0 0] 84)).cell? ⟨g, j, none⟩ = some (.int .i64 ((wd s.data.toList (2 * j) 2 : Nat) : Int))) := ⟨Nat.lt_of_lt_of_le (unhide G4).1 Bd.size, fun j hj => (Bd.cell (p := ⟨g, j, none⟩) (unhide G4).1).trans ((unhide G4).2 j hj)⟩
            have hAg : g ≠ W4.heap.size := Nat.ne_of_lt (unhide G4).1
            refine Shut.out hK _ _ trivial (fun _ => ?_)
            clear hK K
            obtain ⟨A, hAe⟩ : ∃ x, W4.heap.size = x := ⟨_, rfl⟩
            obtain ⟨W5, hW5⟩ : ∃ x, W4.alloc (.cells #[.slice none 0 0] 84) = x := ⟨_, rfl⟩
            rw [hW5] at T5 G5
            rw [hAe, hW5] at R5
            rw [hAe] at hA hAg
            rw [hAe, hW5]
            clear Bd hAe hW5 T4 G4
            refine wpAnyH_ready (rs := [9]) (by kernel_rfl) (by simp) ?_
            refine AllReadyH.cons rfl (fun K hK => ?_) (AllReadyH.nil)
            have a0 := (unhide R5).cell 0 _ rfl
            have f0 := (unhide R5).free 0 (by decide)
            go_simp
            have TX' := hide ((unhide T5).set hA 0 (.slice (some ⟨g, 0, none⟩) 15 c))
            have RX' := hide ((unhide R5).set 0 (.slice (some ⟨g, 0, none⟩) 15 c))
            have GX' := hide (wds_set (unhide G5) hAg 0 (.slice (some ⟨g, 0, none⟩) 15 c))
            clear a0 f0
            refine Shut.out hK _ _ trivial (fun _ => ?_)
            clear hK K
            refine wpAnyH_ready (rs := [10]) (by kernel_rfl) (by simp) ?_
            refine AllReadyH.cons rfl (fun K hK => ?_) (AllReadyH.nil)
            go_simp
            refine Shut.out hK _ _ trivial (fun _ => ?_)
            clear hK K
            refine wpAnyH_done (by kernel_rfl) ?_ _
            go_wp2_with fail
            go_meet
            case rel => exact ⟨⟨A, g, c, rfl, hA, hg0, unhide TX', unhide RX', (unhide GX').1, (unhide GX').2⟩, rfl⟩
          · go_simp
            have Bd : Below W3.heap.size W3 (W3.alloc (.cells #[.slice none 0 0] 84)) := (Below.refl _ _).alloc (Nat.le_refl _) _
            have T4 := hide ((unhide T3).later Bd)
            have R4 : Hid (Blk (W3.alloc (.cells #[.slice none 0 0] 84)) W3.heap.size [.slice none 0 0]) := blk_alloc _ _ _
            have hA : w.heap.size < W3.heap.size := (unhide T3).2.1
            have Q4 := hide ((unhide Q3).later Bd)
            refine Shut.out hK _ _ trivial (fun _ => ?_)
            clear hK K
            obtain ⟨A, hAe⟩ : ∃ x, W3.heap.size = x := ⟨_, rfl⟩
            obtain ⟨W4, hW4⟩ : ∃ x, W3.alloc (.cells #[.slice none 0 0] 84) = x := ⟨_, rfl⟩
            rw [hW4] at T4 Q4
            rw [hAe, hW4] at R4
            rw [hAe] at hA
            rw [hAe, hW4]
            clear Bd hAe hW4 T3 Q3
            refine wpAnyH_ready (rs := [4]) (by kernel_rfl) (by simp) ?_
            refine AllReadyH.cons rfl (fun K hK => ?_) (AllReadyH.nil)
            go_simp
            go_at_call 56
            refine (unhide CB (some ⟨rb, 0, none⟩) W4 (unhide Q4)).mono ?_
            rintro e W5 ⟨g, c, rfl, hgl, hcells, Bd⟩
            have T5 := hide ((unhide T4).later Bd)
            have hg0 : w.heap.size < g := Nat.lt_of_lt_of_le (unhide T4).2.1 hgl.1
            have G5 : Hid (g < W5.heap.size ∧ ∀ j, j < 15 → W5.cell? ⟨g, j, none⟩ = some (.int .i64 ((wd s.data.toList (2 * j) 2 : Nat) : Int))) := ⟨hgl.2, hcells⟩
            have R5 := hide ((unhide R4).later Bd (unhide R4).1)
            have hAg : g ≠ A := Nat.ne_of_gt (Nat.lt_of_lt_of_le (unhide R4).1 hgl.1)
            refine Shut.out hK _ _ trivial (fun _ => ?_)
            clear hK K
            clear hgl hcells Bd T4 Q4 R4
            refine wpAnyH_take (i := 5) (v := .tuple #[.slice (some ⟨g, 0, none⟩) 15 c, .bool true]) rfl (by kernel_rfl) (by kernel_rfl) (by kernel_rfl) (fun _ _ _ h => h) (Or.inl ⟨by rfl, fun W hSw => by go_simp⟩) trivial ?_
            refine wpAnyH_take (i := 6) (v := .slice (some ⟨g, 0, none⟩) 15 c) rfl (by kernel_rfl) (by kernel_rfl) (by kernel_rfl) (fun _ _ _ h => h) (Or.inl ⟨by rfl, fun W hSw => by go_simp⟩) trivial ?_
            refine wpAnyH_take (i := 7) (v := .bool true) rfl (by kernel_rfl) (by kernel_rfl) (by kernel_rfl) (fun _ _ _ h => h) (Or.inl ⟨by rfl, fun W hSw => by go_simp⟩) trivial ?_
            refine wpAnyH_ready (rs := [9]) (by kernel_rfl) (by simp) ?_
            refine AllReadyH.cons rfl (fun K hK => ?_) (AllReadyH.nil)
            have a0 := (unhide R5).cell 0 _ rfl
            have f0 := (unhide R5).free 0 (by decide)
            go_simp
            have TX' := hide ((unhide T5).set hA 0 (.slice (some ⟨g, 0, none⟩) 15 c))
            have RX' := hide ((unhide R5).set 0 (.slice (some ⟨g, 0, none⟩) 15 c))
            have GX' := hide (wds_set (unhide G5) hAg 0 (.slice (some ⟨g, 0, none⟩) 15 c))
            clear a0 f0
            refine Shut.out hK _ _ trivial (fun _ => ?_)
            clear hK K
            refine wpAnyH_ready (rs := [10]) (by kernel_rfl) (by simp) ?_
            refine AllReadyH.cons rfl (fun K hK => ?_) (AllReadyH.nil)
            go_simp
            refine Shut.out hK _ _ trivial (fun _ => ?_)
            clear hK K
            refine wpAnyH_done (by kernel_rfl) ?_ _
            go_wp2_with fail
            go_meet
            case rel => exact ⟨⟨A, g, c, rfl, hA, hg0, unhide TX', unhide RX', (unhide GX').1, (unhide GX').2⟩, rfl⟩
        · go_simp
          have Bd : Below W2.heap.size W2 (W2.alloc (.cells #[.slice none 0 0] 84)) := (Below.refl _ _).alloc (Nat.le_refl _) _
          have T3 := hide ((unhide T2).later Bd)
          have R3 : Hid (Blk (W2.alloc (.cells #[.slice none 0 0] 84)) W2.heap.size [.slice none 0 0]) := blk_alloc _ _ _
          have hA : w.heap.size < W2.heap.size := (unhide T2).2.1
          have P3 := hide ((unhide P2).later Bd (unhide P2).1)
          refine Shut.out hK _ _ trivial (fun _ => ?_)
          clear hK K
          obtain ⟨A, hAe⟩ : ∃ x, W2.heap.size = x := ⟨_, rfl⟩
          obtain ⟨W3, hW3⟩ : ∃ x, W2.alloc (.cells #[.slice none 0 0] 84) = x := ⟨_, rfl⟩
          rw [hW3] at T3 P3
          rw [hAe, hW3] at R3
          rw [hAe] at hA
          rw [hAe, hW3]
          clear Bd hAe hW3 T2 P2
          refine wpAnyH_ready (rs := [3]) (by kernel_rfl) (by simp) ?_
          refine AllReadyH.cons rfl (fun K hK => ?_) (AllReadyH.nil)
          go_simp
          go_at_call 57
          refine (unhide CRep pb W3 ((unhide P3).cell 0 _ rfl)).mono ?_
          rintro e W4 ⟨rfl, ho, Bd⟩
          have T4 := hide ((unhide T3).later Bd)
          have Q4 := hide (IOwn.rowN (n := 15) (by simp) ho)
          have R4 := hide ((unhide R3).later Bd (unhide R3).1)
          refine Shut.out hK _ _ trivial (fun _ => ?_)
          clear hK K
          obtain ⟨rb, hrb⟩ : ∃ x, W3.heap.size = x := ⟨_, rfl⟩
          rw [hrb] at Q4
          rw [hrb]
          clear ho Bd T3 P3 R3 hrb
          refine wpAnyH_ready (rs := [4]) (by kernel_rfl) (by simp) ?_
          refine AllReadyH.cons rfl (fun K hK => ?_) (AllReadyH.nil)
          go_simp
          go_at_call 56
          refine (unhide CB (some ⟨rb, 0, none⟩) W4 (unhide Q4)).mono ?_
          rintro e W5 ⟨g, c, rfl, hgl, hcells, Bd⟩
          have T5 := hide ((unhide T4).later Bd)
          have hg0 : w.heap.size < g := Nat.lt_of_lt_of_le (unhide T4).2.1 hgl.1
          have G5 : Hid (g < W5.heap.size ∧ ∀ j, j < 15 → W5.cell? ⟨g, j, none⟩ = some (.int .i64 ((wd s.data.toList (2 * j) 2 : Nat) : Int))) := ⟨hgl.2, hcells⟩
          have R5 := hide ((unhide R4).later Bd (unhide R4).1)
          have hAg : g ≠ A := Nat.ne_of_gt (Nat.lt_of_lt_of_le (unhide R4).1 hgl.1)
          refine Shut.out hK _ _ trivial (fun _ => ?_)
          clear hK K
          clear hgl hcells Bd T4 Q4 R4
          refine wpAnyH_take (i := 5) (v := .tuple #[.slice (some ⟨g, 0, none⟩) 15 c, .bool true]) rfl (by kernel_rfl) (by kernel_rfl) (by kernel_rfl) (fun _ _ _ h => h) (Or.inl ⟨by rfl, fun W hSw => by go_simp⟩) trivial ?_
          refine wpAnyH_take (i := 6) (v := .slice (some ⟨g, 0, none⟩) 15 c) rfl (by kernel_rfl) (by kernel_rfl) (by kernel_rfl) (fun _ _ _ h => h) (Or.inl ⟨by rfl, fun W hSw => by go_simp⟩) trivial ?_
          refine wpAnyH_take (i := 7) (v := .bool true) rfl (by kernel_rfl) (by kernel_rfl) (by kernel_rfl) (fun _ _ _ h => h) (Or.inl ⟨by rfl, fun W hSw => by go_simp⟩) trivial ?_
          refine wpAnyH_ready (rs := [9]) (by kernel_rfl) (by simp) ?_
          refine AllReadyH.cons rfl (fun K hK => ?_) (AllReadyH.nil)
          have a0 := (unhide R5).cell 0 _ rfl
          have f0 := (unhide R5).free 0 (by decide)
          go_simp
          have TX' := hide ((unhide T5).set hA 0 (.slice (some ⟨g, 0, none⟩) 15 c))
          have RX' := hide ((unhide R5).set 0 (.slice (some ⟨g, 0, none⟩) 15 c))
          have GX' := hide (wds_set (unhide G5) hAg 0 (.slice (some ⟨g, 0, none⟩) 15 c))
          clear a0 f0
          refine Shut.out hK _ _ trivial (fun _ => ?_)
          clear hK K
          refine wpAnyH_ready (rs := [10]) (by kernel_rfl) (by simp) ?_
          refine AllReadyH.cons rfl (fun K hK => ?_) (AllReadyH.nil)
          go_simp
          refine Shut.out hK _ _ trivial (fun _ => ?_)
          clear hK K
          refine wpAnyH_done (by kernel_rfl) ?_ _
          go_wp2_with fail
          go_meet
          case rel => exact ⟨⟨A, g, c, rfl, hA, hg0, unhide TX', unhide RX', (unhide GX').1, (unhide GX').2⟩, rfl⟩
      · go_simp
        have Bd : Below W1.heap.size W1 (W1.alloc (.cells #[.slice none 0 0] 84)) := (Below.refl _ _).alloc (Nat.le_refl _) _
        have T2 := hide ((unhide T1).later Bd)
        have R2 : Hid (Blk (W1.alloc (.cells #[.slice none 0 0] 84)) W1.heap.size [.slice none 0 0]) := blk_alloc _ _ _
        have hA : w.heap.size < W1.heap.size := (unhide T1).2.1
        refine Shut.out hK _ _ trivial (fun _ => ?_)
        clear hK K
        obtain ⟨A, hAe⟩ : ∃ x, W1.heap.size = x := ⟨_, rfl⟩
        obtain ⟨W2, hW2⟩ : ∃ x, W1.alloc (.cells #[.slice none 0 0] 84) = x := ⟨_, rfl⟩
        rw [hW2] at T2
        rw [hAe, hW2] at R2
        rw [hAe] at hA
        rw [hAe, hW2]
        clear Bd hAe hW2 T1
        refine wpAnyH_ready (rs := [2]) (by kernel_rfl) (by simp) ?_
        refine AllReadyH.cons rfl (fun K hK => ?_) (AllReadyH.nil)
        go_simp
        have Bd : Below W2.heap.size W2 (W2.alloc (.cells #[.int .i64 16] 3)) := (Below.refl _ _).alloc (Nat.le_refl _) _
        have T3 := hide ((unhide T2).later Bd)
        have P3 : Hid (Blk (W2.alloc (.cells #[.int .i64 16] 3)) W2.heap.size [.int .i64 16]) := blk_alloc _ _ _
        have R3 := hide ((unhide R2).later Bd (unhide R2).1)
        refine Shut.out hK _ _ trivial (fun _ => ?_)
        clear hK K
        obtain ⟨pb, hpb⟩ : ∃ x, W2.heap.size = x := ⟨_, rfl⟩
        obtain ⟨W3, hW3⟩ : ∃ x, W2.alloc (.cells #[.int .i64 16] 3) = x := ⟨_, rfl⟩
        rw [hW3] at T3 R3
        rw [hpb, hW3] at P3
        rw [hpb, hW3]
        clear Bd hpb hW3 T2 R2
        refine wpAnyH_ready (rs := [3]) (by kernel_rfl) (by simp) ?_
        refine AllReadyH.cons rfl (fun K hK => ?_) (AllReadyH.nil)
        go_simp
        go_at_call 57
        refine (unhide CRep pb W3 ((unhide P3).cell 0 _ rfl)).mono ?_
        rintro e W4 ⟨rfl, ho, Bd⟩
        have T4 := hide ((unhide T3).later Bd)
        have Q4 := hide (IOwn.rowN (n := 15) (by simp) ho)
        have R4 := hide ((unhide R3).later Bd (unhide R3).1)
        refine Shut.out hK _ _ trivial (fun _ => ?_)
        clear hK K
        obtain ⟨rb, hrb⟩ : ∃ x, W3.heap.size = x := ⟨_, rfl⟩
        rw [hrb] at Q4
        rw [hrb]
        clear ho Bd T3 P3 R3 hrb
        refine wpAnyH_ready (rs := [4]) (by kernel_rfl) (by simp) ?_
        refine AllReadyH.cons rfl (fun K hK => ?_) (AllReadyH.nil)
        go_simp
        go_at_call 56
        refine (unhide CB (some ⟨rb, 0, none⟩) W4 (unhide Q4)).mono ?_
        rintro e W5 ⟨g, c, rfl, hgl, hcells, Bd⟩
        have T5 := hide ((unhide T4).later Bd)
        have hg0 : w.heap.size < g := Nat.lt_of_lt_of_le (unhide T4).2.1 hgl.1
        have G5 : Hid (g < W5.heap.size ∧ ∀ j, j < 15 → W5.cell? ⟨g, j, none⟩ = some (.int .i64 ((wd s.data.toList (2 * j) 2 : Nat) : Int))) := ⟨hgl.2, hcells⟩
        have R5 := hide ((unhide R4).later Bd (unhide R4).1)
        have hAg : g ≠ A := Nat.ne_of_gt (Nat.lt_of_lt_of_le (unhide R4).1 hgl.1)
        refine Shut.out hK _ _ trivial (fun _ => ?_)
        clear hK K
        clear hgl hcells Bd T4 Q4 R4
        refine wpAnyH_take (i := 5) (v := .tuple #[.slice (some ⟨g, 0, none⟩) 15 c, .bool true]) rfl (by kernel_rfl) (by kernel_rfl) (by kernel_rfl) (fun _ _ _ h => h) (Or.inl ⟨by rfl, fun W hSw => by go_simp⟩) trivial ?_
        refine wpAnyH_take (i := 6) (v := .slice (some ⟨g, 0, none⟩) 15 c) rfl (by kernel_rfl) (by kernel_rfl) (by kernel_rfl) (fun _ _ _ h => h) (Or.inl ⟨by rfl, fun W hSw => by go_simp⟩) trivial ?_
        refine wpAnyH_take (i := 7) (v := .bool true) rfl (by kernel_rfl) (by kernel_rfl) (by kernel_rfl) (fun _ _ _ h => h) (Or.inl ⟨by rfl, fun W hSw => by go_simp⟩) trivial ?_
        refine wpAnyH_ready (rs := [9]) (by kernel_rfl) (by simp) ?_
        refine AllReadyH.cons rfl (fun K hK => ?_) (AllReadyH.nil)
        have a0 := (unhide R5).cell 0 _ rfl
        have f0 := (unhide R5).free 0 (by decide)
        go_simp
        have TX' := hide ((unhide T5).set hA 0 (.slice (some ⟨g, 0, none⟩) 15 c))
        have RX' := hide ((unhide R5).set 0 (.slice (some ⟨g, 0, none⟩) 15 c))
        have GX' := hide (wds_set (unhide G5) hAg 0 (.slice (some ⟨g, 0, none⟩) 15 c))
        clear a0 f0
        refine Shut.out hK _ _ trivial (fun _ => ?_)
        clear hK K
        refine wpAnyH_ready (rs := [10]) (by kernel_rfl) (by simp) ?_
        refine AllReadyH.cons rfl (fun K hK => ?_) (AllReadyH.nil)
        go_simp
        refine Shut.out hK _ _ trivial (fun _ => ?_)
        clear hK K
        refine wpAnyH_done (by kernel_rfl) ?_ _
        go_wp2_with fail
        go_meet
        case rel => exact ⟨⟨A, g, c, rfl, hA, hg0, unhide TX', unhide RX', (unhide GX').1, (unhide GX').2⟩, rfl⟩
    case rest =>
      obtain ⟨⟨B, g, c, rfl, hB0, hg0, T1', G1'⟩, rfl⟩ := hcut
      have T1 := hide T1'
      have G1 := hide G1'
      clear T1' G1' T0
      have C5 : Hid (∀ W, Wds W B g c s → Calls Tryz.prog 58 #[.int .i64 5, .pointer (some ⟨B, 0, none⟩)] W fun e w' => e = .returned (.int .i64 (ST : Nat)) ∧ Below W.heap.size W w') := fun W h => by rw [← (unhide HALL).2.1]; exact longAt_any 5 B g c s W h (by omega) (unhide H30)
      have C7 : Hid (∀ W, Wds W B g c s → Calls Tryz.prog 58 #[.int .i64 7, .pointer (some ⟨B, 0, none⟩)] W fun e w' => e = .returned (.int .i64 (CR : Nat)) ∧ Below W.heap.size W w') := fun W h => by rw [← (unhide HALL).2.2.1]; exact longAt_any 7 B g c s W h (by omega) (unhide H30)
      have C9 : Hid (∀ W, Wds W B g c s → Calls Tryz.prog 58 #[.int .i64 9, .pointer (some ⟨B, 0, none⟩)] W fun e w' => e = .returned (.int .i64 (PK : Nat)) ∧ Below W.heap.size W w') := fun W h => by rw [← (unhide HALL).2.2.2.1]; exact longAt_any 9 B g c s W h (by omega) (unhide H30)
      have C11 : Hid (∀ W, Wds W B g c s → Calls Tryz.prog 58 #[.int .i64 11, .pointer (some ⟨B, 0, none⟩)] W fun e w' => e = .returned (.int .i64 (LN : Nat)) ∧ Below W.heap.size W w') := fun W h => by rw [← (unhide HALL).2.2.2.2.1]; exact longAt_any 11 B g c s W h (by omega) (unhide H30)
      have W4 : Hid (∀ W, Wds W B g c s → W.cell? ⟨g, 4, none⟩ = some (.int .i64 (HW : Nat))) := fun W h => by rw [← (unhide HALL).1]; exact h.2.2 4 (by omega)
      have W13 : Hid (∀ W, Wds W B g c s → W.cell? ⟨g, 13, none⟩ = some (.int .i64 (NL : Nat))) := fun W h => by rw [← (unhide HALL).2.2.2.2.2]; exact h.2.2 13 (by omega)
      go_wp2_with fail
      go_cut [7] (fun v wx => ∃ A, v = .pointer (some ⟨A, 0, none⟩) ∧ w.heap.size < A ∧ B < A ∧ g < A ∧ HgS w wx ∧ Wds wx B g c s ∧ Blk wx A [.int .i64 (HW : Nat), .int .i64 (ST : Nat), .int .i64 (CR : Nat), .int .i64 (PK : Nat), .int .i64 (LN : Nat), .string ⟨#[]⟩])
      case first =>
        refine wp_region_held_drew (S := fun W => Wds W B g c s) hmix (unhide G1).drew (fun hS => ?_)
        refine wpAnyH_take (i := 0) (v := .slice (some ⟨g, 0, none⟩) 15 c) rfl (by kernel_rfl) (by kernel_rfl) (by kernel_rfl) (fun _ _ _ h => h) (Or.inl ⟨by rfl, fun W hSw => by have s0 := Blk.cell hSw.1 0 _ rfl; go_simp⟩) hS ?_
        refine wpAnyH_take (i := 1) (v := .pointer (some ⟨g, 4, none⟩)) rfl (by kernel_rfl) (by kernel_rfl) (by kernel_rfl) (fun _ _ _ h => h) (Or.inl ⟨by rfl, fun W hSw => by go_simp⟩) hS ?_
        refine wpAnyH_take (i := 2) (v := .int .i64 (HW : Nat)) rfl (by kernel_rfl) (by kernel_rfl) (by kernel_rfl) (fun _ _ _ h => h) (Or.inl ⟨by rfl, fun W hSw => by have s1 := unhide W4 W hSw; go_simp⟩) hS ?_
        refine wpAnyH_take (i := 3) (v := .func (.func 58) #[] #[.pointer (some ⟨B, 0, none⟩)]) rfl (by kernel_rfl) (by kernel_rfl) (by kernel_rfl) (fun _ _ _ h => h) (Or.inl ⟨by rfl, fun W hSw => by go_simp⟩) hS ?_
        refine wpAnyH_take (i := 5) (v := .func (.func 58) #[] #[.pointer (some ⟨B, 0, none⟩)]) rfl (by kernel_rfl) (by kernel_rfl) (by kernel_rfl) (fun _ _ _ h => h) (Or.inl ⟨by rfl, fun W hSw => by go_simp⟩) hS ?_
        refine wpAnyH_take (i := 7) (v := .func (.func 58) #[] #[.pointer (some ⟨B, 0, none⟩)]) rfl (by kernel_rfl) (by kernel_rfl) (by kernel_rfl) (fun _ _ _ h => h) (Or.inl ⟨by rfl, fun W hSw => by go_simp⟩) hS ?_
        refine wpAnyH_take (i := 9) (v := .func (.func 58) #[] #[.pointer (some ⟨B, 0, none⟩)]) rfl (by kernel_rfl) (by kernel_rfl) (by kernel_rfl) (fun _ _ _ h => h) (Or.inl ⟨by rfl, fun W hSw => by go_simp⟩) hS ?_
        have T2 := hide (unhide T1).drew
        have G2 := hide (unhide G1).drew
        clear T1 G1
        generalize wc.drew = W2 at *
        refine wpAnyH_ready (rs := [4, 12]) (by kernel_rfl) (by simp) ?_
        refine AllReadyH.cons rfl (fun K hK => ?_) (AllReadyH.cons rfl (fun K hK => ?_) (AllReadyH.nil))
        · go_simp
          go_at_call 58
          refine (unhide C5 W2 (unhide G2)).mono ?_
          rintro e W3 ⟨rfl, Bd⟩
          have T3 := hide ((unhide T2).later Bd)
          have G3 := hide ((unhide G2).later Bd)
          refine Shut.out hK _ _ (unhide G3) (fun hS => ?_)
          clear hK K
          clear Bd T2 G2
          refine wpAnyH_ready (rs := [6, 12]) (by kernel_rfl) (by simp) ?_
          refine AllReadyH.cons rfl (fun K hK => ?_) (AllReadyH.cons rfl (fun K hK => ?_) (AllReadyH.nil))
          · go_simp
            go_at_call 58
            refine (unhide C7 W3 (unhide G3)).mono ?_
            rintro e W4 ⟨rfl, Bd⟩
            have T4 := hide ((unhide T3).later Bd)
            have G4 := hide ((unhide G3).later Bd)
            refine Shut.out hK _ _ (unhide G4) (fun hS => ?_)
            clear hK K
            clear Bd T3 G3
            refine wpAnyH_ready (rs := [8, 12]) (by kernel_rfl) (by simp) ?_
            refine AllReadyH.cons rfl (fun K hK => ?_) (AllReadyH.cons rfl (fun K hK => ?_) (AllReadyH.nil))
            · go_simp
              go_at_call 58
              refine (unhide C9 W4 (unhide G4)).mono ?_
              rintro e W5 ⟨rfl, Bd⟩
              have T5 := hide ((unhide T4).later Bd)
              have G5 := hide ((unhide G4).later Bd)
              refine Shut.out hK _ _ (unhide G5) (fun hS => ?_)
              clear hK K
              clear Bd T4 G4
              refine wpAnyH_ready (rs := [10, 12]) (by kernel_rfl) (by simp) ?_
              refine AllReadyH.cons rfl (fun K hK => ?_) (AllReadyH.cons rfl (fun K hK => ?_) (AllReadyH.nil))
              · go_simp
                go_at_call 58
                refine (unhide C11 W5 (unhide G5)).mono ?_
                rintro e W6 ⟨rfl, Bd⟩
                have T6 := hide ((unhide T5).later Bd)
                have G6 := hide ((unhide G5).later Bd)
                refine Shut.out hK _ _ (unhide G6) (fun hS => ?_)
                clear hK K
                clear Bd T5 G5
                refine wpAnyH_take (i := 11) (v := .agg #[.int .i64 (HW : Nat), .int .i64 (ST : Nat), .int .i64 (CR : Nat), .int .i64 (PK : Nat), .int .i64 (LN : Nat), .string ⟨#[]⟩]) rfl (by kernel_rfl) (by kernel_rfl) (by kernel_rfl) (fun _ _ _ h => h) (Or.inl ⟨by rfl, fun W hSw => by go_simp⟩) hS ?_
                refine wpAnyH_ready (rs := [12]) (by kernel_rfl) (by simp) ?_
                refine AllReadyH.cons rfl (fun K hK => ?_) (AllReadyH.nil)
                go_simp
                have Bd : Below W6.heap.size W6 (W6.alloc (.cells #[.int .i64 0, .int .i64 0, .int .i64 0, .int .i64 0, .int .i64 0, .string ⟨#[]⟩] 46)) := (Below.refl _ _).alloc (Nat.le_refl _) _
                have T7 := hide ((unhide T6).later Bd)
                have G7 := hide ((unhide G6).later Bd)
                have R7 : Hid (Blk (W6.alloc (.cells #[.int .i64 0, .int .i64 0, .int .i64 0, .int .i64 0, .int .i64 0, .string ⟨#[]⟩] 46)) W6.heap.size [.int .i64 0, .int .i64 0, .int .i64 0, .int .i64 0, .int .i64 0, .string ⟨#[]⟩]) := blk_alloc _ _ _
                have hA : w.heap.size < W6.heap.size := (unhide T6).2.1
                have hBA : B < W6.heap.size := (unhide G6).1.1
                have hgA : g < W6.heap.size := (unhide G6).2.1
                refine Shut.out hK _ _ (unhide G7) (fun hS => ?_)
                clear hK K
                obtain ⟨A, hAe⟩ : ∃ x, W6.heap.size = x := ⟨_, rfl⟩
                obtain ⟨W7, hW7⟩ : ∃ x, W6.alloc (.cells #[.int .i64 0, .int .i64 0, .int .i64 0, .int .i64 0, .int .i64 0, .string ⟨#[]⟩] 46) = x := ⟨_, rfl⟩
                rw [hW7] at T7 G7 hS
                rw [hAe, hW7] at R7
                rw [hAe] at hA hBA hgA
                rw [hAe, hW7]
                clear Bd hAe hW7 T6 G6
                refine wpAnyH_ready (rs := [13]) (by kernel_rfl) (by simp) ?_
                refine AllReadyH.cons rfl (fun K hK => ?_) (AllReadyH.nil)
                have a0 := (unhide R7).cell 0 _ rfl
                have f0 := (unhide R7).free 0 (by decide)
                have a1 := (unhide R7).cell 1 _ rfl
                have f1 := (unhide R7).free 1 (by decide)
                have a2 := (unhide R7).cell 2 _ rfl
                have f2 := (unhide R7).free 2 (by decide)
                have a3 := (unhide R7).cell 3 _ rfl
                have f3 := (unhide R7).free 3 (by decide)
                have a4 := (unhide R7).cell 4 _ rfl
                have f4 := (unhide R7).free 4 (by decide)
                have a5 := (unhide R7).cell 5 _ rfl
                have f5 := (unhide R7).free 5 (by decide)
                go_simp
                have TX' := hide (((((((unhide T7).set hA 0 (.int .i64 (HW : Nat))).set hA 1 (.int .i64 (ST : Nat))).set hA 2 (.int .i64 (CR : Nat))).set hA 3 (.int .i64 (PK : Nat))).set hA 4 (.int .i64 (LN : Nat))).set hA 5 (.string ⟨#[]⟩))
                have RX' := hide (((((((unhide R7).set 0 (.int .i64 (HW : Nat))).set 1 (.int .i64 (ST : Nat))).set 2 (.int .i64 (CR : Nat))).set 3 (.int .i64 (PK : Nat))).set 4 (.int .i64 (LN : Nat))).set 5 (.string ⟨#[]⟩))
                have GX' := hide (((((((unhide G7).set (Nat.ne_of_lt hBA) (Nat.ne_of_lt hgA) 0 (.int .i64 (HW : Nat))).set (Nat.ne_of_lt hBA) (Nat.ne_of_lt hgA) 1 (.int .i64 (ST : Nat))).set (Nat.ne_of_lt hBA) (Nat.ne_of_lt hgA) 2 (.int .i64 (CR : Nat))).set (Nat.ne_of_lt hBA) (Nat.ne_of_lt hgA) 3 (.int .i64 (PK : Nat))).set (Nat.ne_of_lt hBA) (Nat.ne_of_lt hgA) 4 (.int .i64 (LN : Nat))).set (Nat.ne_of_lt hBA) (Nat.ne_of_lt hgA) 5 (.string ⟨#[]⟩))
                clear a0 f0 a1 f1 a2 f2 a3 f3 a4 f4 a5 f5
                refine Shut.out hK _ _ (unhide GX') (fun hS => ?_)
                clear hK K
                refine wpAnyH_done (by kernel_rfl) ?_ _
                go_wp2_with fail
                go_meet
                case rel => exact ⟨A, rfl, hA, hBA, hgA, unhide TX', unhide GX', unhide RX'⟩
              · go_simp
                have Bd : Below W5.heap.size W5 (W5.alloc (.cells #[.int .i64 0, .int .i64 0, .int .i64 0, .int .i64 0, .int .i64 0, .string ⟨#[]⟩] 46)) := (Below.refl _ _).alloc (Nat.le_refl _) _
                have T6 := hide ((unhide T5).later Bd)
                have G6 := hide ((unhide G5).later Bd)
                have R6 : Hid (Blk (W5.alloc (.cells #[.int .i64 0, .int .i64 0, .int .i64 0, .int .i64 0, .int .i64 0, .string ⟨#[]⟩] 46)) W5.heap.size [.int .i64 0, .int .i64 0, .int .i64 0, .int .i64 0, .int .i64 0, .string ⟨#[]⟩]) := blk_alloc _ _ _
                have hA : w.heap.size < W5.heap.size := (unhide T5).2.1
                have hBA : B < W5.heap.size := (unhide G5).1.1
                have hgA : g < W5.heap.size := (unhide G5).2.1
                refine Shut.out hK _ _ (unhide G6) (fun hS => ?_)
                clear hK K
                obtain ⟨A, hAe⟩ : ∃ x, W5.heap.size = x := ⟨_, rfl⟩
                obtain ⟨W6, hW6⟩ : ∃ x, W5.alloc (.cells #[.int .i64 0, .int .i64 0, .int .i64 0, .int .i64 0, .int .i64 0, .string ⟨#[]⟩] 46) = x := ⟨_, rfl⟩
                rw [hW6] at T6 G6 hS
                rw [hAe, hW6] at R6
                rw [hAe] at hA hBA hgA
                rw [hAe, hW6]
                clear Bd hAe hW6 T5 G5
                refine wpAnyH_ready (rs := [10]) (by kernel_rfl) (by simp) ?_
                refine AllReadyH.cons rfl (fun K hK => ?_) (AllReadyH.nil)
                go_simp
                go_at_call 58
                refine (unhide C11 W6 (unhide G6)).mono ?_
                rintro e W7 ⟨rfl, Bd⟩
                have T7 := hide ((unhide T6).later Bd)
                have G7 := hide ((unhide G6).later Bd)
                have R7 := hide ((unhide R6).later Bd (unhide R6).1)
                refine Shut.out hK _ _ (unhide G7) (fun hS => ?_)
                clear hK K
                clear Bd T6 G6 R6
                refine wpAnyH_take (i := 11) (v := .agg #[.int .i64 (HW : Nat), .int .i64 (ST : Nat), .int .i64 (CR : Nat), .int .i64 (PK : Nat), .int .i64 (LN : Nat), .string ⟨#[]⟩]) rfl (by kernel_rfl) (by kernel_rfl) (by kernel_rfl) (fun _ _ _ h => h) (Or.inl ⟨by rfl, fun W hSw => by go_simp⟩) hS ?_
                refine wpAnyH_ready (rs := [13]) (by kernel_rfl) (by simp) ?_
                refine AllReadyH.cons rfl (fun K hK => ?_) (AllReadyH.nil)
                have a0 := (unhide R7).cell 0 _ rfl
                have f0 := (unhide R7).free 0 (by decide)
                have a1 := (unhide R7).cell 1 _ rfl
                have f1 := (unhide R7).free 1 (by decide)
                have a2 := (unhide R7).cell 2 _ rfl
                have f2 := (unhide R7).free 2 (by decide)
                have a3 := (unhide R7).cell 3 _ rfl
                have f3 := (unhide R7).free 3 (by decide)
                have a4 := (unhide R7).cell 4 _ rfl
                have f4 := (unhide R7).free 4 (by decide)
                have a5 := (unhide R7).cell 5 _ rfl
                have f5 := (unhide R7).free 5 (by decide)
                go_simp
                have TX' := hide (((((((unhide T7).set hA 0 (.int .i64 (HW : Nat))).set hA 1 (.int .i64 (ST : Nat))).set hA 2 (.int .i64 (CR : Nat))).set hA 3 (.int .i64 (PK : Nat))).set hA 4 (.int .i64 (LN : Nat))).set hA 5 (.string ⟨#[]⟩))
                have RX' := hide (((((((unhide R7).set 0 (.int .i64 (HW : Nat))).set 1 (.int .i64 (ST : Nat))).set 2 (.int .i64 (CR : Nat))).set 3 (.int .i64 (PK : Nat))).set 4 (.int .i64 (LN : Nat))).set 5 (.string ⟨#[]⟩))
                have GX' := hide (((((((unhide G7).set (Nat.ne_of_lt hBA) (Nat.ne_of_lt hgA) 0 (.int .i64 (HW : Nat))).set (Nat.ne_of_lt hBA) (Nat.ne_of_lt hgA) 1 (.int .i64 (ST : Nat))).set (Nat.ne_of_lt hBA) (Nat.ne_of_lt hgA) 2 (.int .i64 (CR : Nat))).set (Nat.ne_of_lt hBA) (Nat.ne_of_lt hgA) 3 (.int .i64 (PK : Nat))).set (Nat.ne_of_lt hBA) (Nat.ne_of_lt hgA) 4 (.int .i64 (LN : Nat))).set (Nat.ne_of_lt hBA) (Nat.ne_of_lt hgA) 5 (.string ⟨#[]⟩))
                clear a0 f0 a1 f1 a2 f2 a3 f3 a4 f4 a5 f5
                refine Shut.out hK _ _ (unhide GX') (fun hS => ?_)
                clear hK K
                refine wpAnyH_done (by kernel_rfl) ?_ _
                go_wp2_with fail
                go_meet
                case rel => exact ⟨A, rfl, hA, hBA, hgA, unhide TX', unhide GX', unhide RX'⟩
            · go_simp
              have Bd : Below W4.heap.size W4 (W4.alloc (.cells #[.int .i64 0, .int .i64 0, .int .i64 0, .int .i64 0, .int .i64 0, .string ⟨#[]⟩] 46)) := (Below.refl _ _).alloc (Nat.le_refl _) _
              have T5 := hide ((unhide T4).later Bd)
              have G5 := hide ((unhide G4).later Bd)
              have R5 : Hid (Blk (W4.alloc (.cells #[.int .i64 0, .int .i64 0, .int .i64 0, .int .i64 0, .int .i64 0, .string ⟨#[]⟩] 46)) W4.heap.size [.int .i64 0, .int .i64 0, .int .i64 0, .int .i64 0, .int .i64 0, .string ⟨#[]⟩]) := blk_alloc _ _ _
              have hA : w.heap.size < W4.heap.size := (unhide T4).2.1
              have hBA : B < W4.heap.size := (unhide G4).1.1
              have hgA : g < W4.heap.size := (unhide G4).2.1
              refine Shut.out hK _ _ (unhide G5) (fun hS => ?_)
              clear hK K
              obtain ⟨A, hAe⟩ : ∃ x, W4.heap.size = x := ⟨_, rfl⟩
              obtain ⟨W5, hW5⟩ : ∃ x, W4.alloc (.cells #[.int .i64 0, .int .i64 0, .int .i64 0, .int .i64 0, .int .i64 0, .string ⟨#[]⟩] 46) = x := ⟨_, rfl⟩
              rw [hW5] at T5 G5 hS
              rw [hAe, hW5] at R5
              rw [hAe] at hA hBA hgA
              rw [hAe, hW5]
              clear Bd hAe hW5 T4 G4
              refine wpAnyH_ready (rs := [8]) (by kernel_rfl) (by simp) ?_
              refine AllReadyH.cons rfl (fun K hK => ?_) (AllReadyH.nil)
              go_simp
              go_at_call 58
              refine (unhide C9 W5 (unhide G5)).mono ?_
              rintro e W6 ⟨rfl, Bd⟩
              have T6 := hide ((unhide T5).later Bd)
              have G6 := hide ((unhide G5).later Bd)
              have R6 := hide ((unhide R5).later Bd (unhide R5).1)
              refine Shut.out hK _ _ (unhide G6) (fun hS => ?_)
              clear hK K
              clear Bd T5 G5 R5
              refine wpAnyH_ready (rs := [10]) (by kernel_rfl) (by simp) ?_
              refine AllReadyH.cons rfl (fun K hK => ?_) (AllReadyH.nil)
              go_simp
              go_at_call 58
              refine (unhide C11 W6 (unhide G6)).mono ?_
              rintro e W7 ⟨rfl, Bd⟩
              have T7 := hide ((unhide T6).later Bd)
              have G7 := hide ((unhide G6).later Bd)
              have R7 := hide ((unhide R6).later Bd (unhide R6).1)
              refine Shut.out hK _ _ (unhide G7) (fun hS => ?_)
              clear hK K
              clear Bd T6 G6 R6
              refine wpAnyH_take (i := 11) (v := .agg #[.int .i64 (HW : Nat), .int .i64 (ST : Nat), .int .i64 (CR : Nat), .int .i64 (PK : Nat), .int .i64 (LN : Nat), .string ⟨#[]⟩]) rfl (by kernel_rfl) (by kernel_rfl) (by kernel_rfl) (fun _ _ _ h => h) (Or.inl ⟨by rfl, fun W hSw => by go_simp⟩) hS ?_
              refine wpAnyH_ready (rs := [13]) (by kernel_rfl) (by simp) ?_
              refine AllReadyH.cons rfl (fun K hK => ?_) (AllReadyH.nil)
              have a0 := (unhide R7).cell 0 _ rfl
              have f0 := (unhide R7).free 0 (by decide)
              have a1 := (unhide R7).cell 1 _ rfl
              have f1 := (unhide R7).free 1 (by decide)
              have a2 := (unhide R7).cell 2 _ rfl
              have f2 := (unhide R7).free 2 (by decide)
              have a3 := (unhide R7).cell 3 _ rfl
              have f3 := (unhide R7).free 3 (by decide)
              have a4 := (unhide R7).cell 4 _ rfl
              have f4 := (unhide R7).free 4 (by decide)
              have a5 := (unhide R7).cell 5 _ rfl
              have f5 := (unhide R7).free 5 (by decide)
              go_simp
              have TX' := hide (((((((unhide T7).set hA 0 (.int .i64 (HW : Nat))).set hA 1 (.int .i64 (ST : Nat))).set hA 2 (.int .i64 (CR : Nat))).set hA 3 (.int .i64 (PK : Nat))).set hA 4 (.int .i64 (LN : Nat))).set hA 5 (.string ⟨#[]⟩))
              have RX' := hide (((((((unhide R7).set 0 (.int .i64 (HW : Nat))).set 1 (.int .i64 (ST : Nat))).set 2 (.int .i64 (CR : Nat))).set 3 (.int .i64 (PK : Nat))).set 4 (.int .i64 (LN : Nat))).set 5 (.string ⟨#[]⟩))
              have GX' := hide (((((((unhide G7).set (Nat.ne_of_lt hBA) (Nat.ne_of_lt hgA) 0 (.int .i64 (HW : Nat))).set (Nat.ne_of_lt hBA) (Nat.ne_of_lt hgA) 1 (.int .i64 (ST : Nat))).set (Nat.ne_of_lt hBA) (Nat.ne_of_lt hgA) 2 (.int .i64 (CR : Nat))).set (Nat.ne_of_lt hBA) (Nat.ne_of_lt hgA) 3 (.int .i64 (PK : Nat))).set (Nat.ne_of_lt hBA) (Nat.ne_of_lt hgA) 4 (.int .i64 (LN : Nat))).set (Nat.ne_of_lt hBA) (Nat.ne_of_lt hgA) 5 (.string ⟨#[]⟩))
              clear a0 f0 a1 f1 a2 f2 a3 f3 a4 f4 a5 f5
              refine Shut.out hK _ _ (unhide GX') (fun hS => ?_)
              clear hK K
              refine wpAnyH_done (by kernel_rfl) ?_ _
              go_wp2_with fail
              go_meet
              case rel => exact ⟨A, rfl, hA, hBA, hgA, unhide TX', unhide GX', unhide RX'⟩
          · go_simp
            have Bd : Below W3.heap.size W3 (W3.alloc (.cells #[.int .i64 0, .int .i64 0, .int .i64 0, .int .i64 0, .int .i64 0, .string ⟨#[]⟩] 46)) := (Below.refl _ _).alloc (Nat.le_refl _) _
            have T4 := hide ((unhide T3).later Bd)
            have G4 := hide ((unhide G3).later Bd)
            have R4 : Hid (Blk (W3.alloc (.cells #[.int .i64 0, .int .i64 0, .int .i64 0, .int .i64 0, .int .i64 0, .string ⟨#[]⟩] 46)) W3.heap.size [.int .i64 0, .int .i64 0, .int .i64 0, .int .i64 0, .int .i64 0, .string ⟨#[]⟩]) := blk_alloc _ _ _
            have hA : w.heap.size < W3.heap.size := (unhide T3).2.1
            have hBA : B < W3.heap.size := (unhide G3).1.1
            have hgA : g < W3.heap.size := (unhide G3).2.1
            refine Shut.out hK _ _ (unhide G4) (fun hS => ?_)
            clear hK K
            obtain ⟨A, hAe⟩ : ∃ x, W3.heap.size = x := ⟨_, rfl⟩
            obtain ⟨W4, hW4⟩ : ∃ x, W3.alloc (.cells #[.int .i64 0, .int .i64 0, .int .i64 0, .int .i64 0, .int .i64 0, .string ⟨#[]⟩] 46) = x := ⟨_, rfl⟩
            rw [hW4] at T4 G4 hS
            rw [hAe, hW4] at R4
            rw [hAe] at hA hBA hgA
            rw [hAe, hW4]
            clear Bd hAe hW4 T3 G3
            refine wpAnyH_ready (rs := [6]) (by kernel_rfl) (by simp) ?_
            refine AllReadyH.cons rfl (fun K hK => ?_) (AllReadyH.nil)
            go_simp
            go_at_call 58
            refine (unhide C7 W4 (unhide G4)).mono ?_
            rintro e W5 ⟨rfl, Bd⟩
            have T5 := hide ((unhide T4).later Bd)
            have G5 := hide ((unhide G4).later Bd)
            have R5 := hide ((unhide R4).later Bd (unhide R4).1)
            refine Shut.out hK _ _ (unhide G5) (fun hS => ?_)
            clear hK K
            clear Bd T4 G4 R4
            refine wpAnyH_ready (rs := [8]) (by kernel_rfl) (by simp) ?_
            refine AllReadyH.cons rfl (fun K hK => ?_) (AllReadyH.nil)
            go_simp
            go_at_call 58
            refine (unhide C9 W5 (unhide G5)).mono ?_
            rintro e W6 ⟨rfl, Bd⟩
            have T6 := hide ((unhide T5).later Bd)
            have G6 := hide ((unhide G5).later Bd)
            have R6 := hide ((unhide R5).later Bd (unhide R5).1)
            refine Shut.out hK _ _ (unhide G6) (fun hS => ?_)
            clear hK K
            clear Bd T5 G5 R5
            refine wpAnyH_ready (rs := [10]) (by kernel_rfl) (by simp) ?_
            refine AllReadyH.cons rfl (fun K hK => ?_) (AllReadyH.nil)
            go_simp
            go_at_call 58
            refine (unhide C11 W6 (unhide G6)).mono ?_
            rintro e W7 ⟨rfl, Bd⟩
            have T7 := hide ((unhide T6).later Bd)
            have G7 := hide ((unhide G6).later Bd)
            have R7 := hide ((unhide R6).later Bd (unhide R6).1)
            refine Shut.out hK _ _ (unhide G7) (fun hS => ?_)
            clear hK K
            clear Bd T6 G6 R6
            refine wpAnyH_take (i := 11) (v := .agg #[.int .i64 (HW : Nat), .int .i64 (ST : Nat), .int .i64 (CR : Nat), .int .i64 (PK : Nat), .int .i64 (LN : Nat), .string ⟨#[]⟩]) rfl (by kernel_rfl) (by kernel_rfl) (by kernel_rfl) (fun _ _ _ h => h) (Or.inl ⟨by rfl, fun W hSw => by go_simp⟩) hS ?_
            refine wpAnyH_ready (rs := [13]) (by kernel_rfl) (by simp) ?_
            refine AllReadyH.cons rfl (fun K hK => ?_) (AllReadyH.nil)
            have a0 := (unhide R7).cell 0 _ rfl
            have f0 := (unhide R7).free 0 (by decide)
            have a1 := (unhide R7).cell 1 _ rfl
            have f1 := (unhide R7).free 1 (by decide)
            have a2 := (unhide R7).cell 2 _ rfl
            have f2 := (unhide R7).free 2 (by decide)
            have a3 := (unhide R7).cell 3 _ rfl
            have f3 := (unhide R7).free 3 (by decide)
            have a4 := (unhide R7).cell 4 _ rfl
            have f4 := (unhide R7).free 4 (by decide)
            have a5 := (unhide R7).cell 5 _ rfl
            have f5 := (unhide R7).free 5 (by decide)
            go_simp
            have TX' := hide (((((((unhide T7).set hA 0 (.int .i64 (HW : Nat))).set hA 1 (.int .i64 (ST : Nat))).set hA 2 (.int .i64 (CR : Nat))).set hA 3 (.int .i64 (PK : Nat))).set hA 4 (.int .i64 (LN : Nat))).set hA 5 (.string ⟨#[]⟩))
            have RX' := hide (((((((unhide R7).set 0 (.int .i64 (HW : Nat))).set 1 (.int .i64 (ST : Nat))).set 2 (.int .i64 (CR : Nat))).set 3 (.int .i64 (PK : Nat))).set 4 (.int .i64 (LN : Nat))).set 5 (.string ⟨#[]⟩))
            have GX' := hide (((((((unhide G7).set (Nat.ne_of_lt hBA) (Nat.ne_of_lt hgA) 0 (.int .i64 (HW : Nat))).set (Nat.ne_of_lt hBA) (Nat.ne_of_lt hgA) 1 (.int .i64 (ST : Nat))).set (Nat.ne_of_lt hBA) (Nat.ne_of_lt hgA) 2 (.int .i64 (CR : Nat))).set (Nat.ne_of_lt hBA) (Nat.ne_of_lt hgA) 3 (.int .i64 (PK : Nat))).set (Nat.ne_of_lt hBA) (Nat.ne_of_lt hgA) 4 (.int .i64 (LN : Nat))).set (Nat.ne_of_lt hBA) (Nat.ne_of_lt hgA) 5 (.string ⟨#[]⟩))
            clear a0 f0 a1 f1 a2 f2 a3 f3 a4 f4 a5 f5
            refine Shut.out hK _ _ (unhide GX') (fun hS => ?_)
            clear hK K
            refine wpAnyH_done (by kernel_rfl) ?_ _
            go_wp2_with fail
            go_meet
            case rel => exact ⟨A, rfl, hA, hBA, hgA, unhide TX', unhide GX', unhide RX'⟩
        · go_simp
          have Bd : Below W2.heap.size W2 (W2.alloc (.cells #[.int .i64 0, .int .i64 0, .int .i64 0, .int .i64 0, .int .i64 0, .string ⟨#[]⟩] 46)) := (Below.refl _ _).alloc (Nat.le_refl _) _
          have T3 := hide ((unhide T2).later Bd)
          have G3 := hide ((unhide G2).later Bd)
          have R3 : Hid (Blk (W2.alloc (.cells #[.int .i64 0, .int .i64 0, .int .i64 0, .int .i64 0, .int .i64 0, .string ⟨#[]⟩] 46)) W2.heap.size [.int .i64 0, .int .i64 0, .int .i64 0, .int .i64 0, .int .i64 0, .string ⟨#[]⟩]) := blk_alloc _ _ _
          have hA : w.heap.size < W2.heap.size := (unhide T2).2.1
          have hBA : B < W2.heap.size := (unhide G2).1.1
          have hgA : g < W2.heap.size := (unhide G2).2.1
          refine Shut.out hK _ _ (unhide G3) (fun hS => ?_)
          clear hK K
          obtain ⟨A, hAe⟩ : ∃ x, W2.heap.size = x := ⟨_, rfl⟩
          obtain ⟨W3, hW3⟩ : ∃ x, W2.alloc (.cells #[.int .i64 0, .int .i64 0, .int .i64 0, .int .i64 0, .int .i64 0, .string ⟨#[]⟩] 46) = x := ⟨_, rfl⟩
          rw [hW3] at T3 G3 hS
          rw [hAe, hW3] at R3
          rw [hAe] at hA hBA hgA
          rw [hAe, hW3]
          clear Bd hAe hW3 T2 G2
          refine wpAnyH_ready (rs := [4]) (by kernel_rfl) (by simp) ?_
          refine AllReadyH.cons rfl (fun K hK => ?_) (AllReadyH.nil)
          go_simp
          go_at_call 58
          refine (unhide C5 W3 (unhide G3)).mono ?_
          rintro e W4 ⟨rfl, Bd⟩
          have T4 := hide ((unhide T3).later Bd)
          have G4 := hide ((unhide G3).later Bd)
          have R4 := hide ((unhide R3).later Bd (unhide R3).1)
          refine Shut.out hK _ _ (unhide G4) (fun hS => ?_)
          clear hK K
          clear Bd T3 G3 R3
          refine wpAnyH_ready (rs := [6]) (by kernel_rfl) (by simp) ?_
          refine AllReadyH.cons rfl (fun K hK => ?_) (AllReadyH.nil)
          go_simp
          go_at_call 58
          refine (unhide C7 W4 (unhide G4)).mono ?_
          rintro e W5 ⟨rfl, Bd⟩
          have T5 := hide ((unhide T4).later Bd)
          have G5 := hide ((unhide G4).later Bd)
          have R5 := hide ((unhide R4).later Bd (unhide R4).1)
          refine Shut.out hK _ _ (unhide G5) (fun hS => ?_)
          clear hK K
          clear Bd T4 G4 R4
          refine wpAnyH_ready (rs := [8]) (by kernel_rfl) (by simp) ?_
          refine AllReadyH.cons rfl (fun K hK => ?_) (AllReadyH.nil)
          go_simp
          go_at_call 58
          refine (unhide C9 W5 (unhide G5)).mono ?_
          rintro e W6 ⟨rfl, Bd⟩
          have T6 := hide ((unhide T5).later Bd)
          have G6 := hide ((unhide G5).later Bd)
          have R6 := hide ((unhide R5).later Bd (unhide R5).1)
          refine Shut.out hK _ _ (unhide G6) (fun hS => ?_)
          clear hK K
          clear Bd T5 G5 R5
          refine wpAnyH_ready (rs := [10]) (by kernel_rfl) (by simp) ?_
          refine AllReadyH.cons rfl (fun K hK => ?_) (AllReadyH.nil)
          go_simp
          go_at_call 58
          refine (unhide C11 W6 (unhide G6)).mono ?_
          rintro e W7 ⟨rfl, Bd⟩
          have T7 := hide ((unhide T6).later Bd)
          have G7 := hide ((unhide G6).later Bd)
          have R7 := hide ((unhide R6).later Bd (unhide R6).1)
          refine Shut.out hK _ _ (unhide G7) (fun hS => ?_)
          clear hK K
          clear Bd T6 G6 R6
          refine wpAnyH_take (i := 11) (v := .agg #[.int .i64 (HW : Nat), .int .i64 (ST : Nat), .int .i64 (CR : Nat), .int .i64 (PK : Nat), .int .i64 (LN : Nat), .string ⟨#[]⟩]) rfl (by kernel_rfl) (by kernel_rfl) (by kernel_rfl) (fun _ _ _ h => h) (Or.inl ⟨by rfl, fun W hSw => by go_simp⟩) hS ?_
          refine wpAnyH_ready (rs := [13]) (by kernel_rfl) (by simp) ?_
          refine AllReadyH.cons rfl (fun K hK => ?_) (AllReadyH.nil)
          have a0 := (unhide R7).cell 0 _ rfl
          have f0 := (unhide R7).free 0 (by decide)
          have a1 := (unhide R7).cell 1 _ rfl
          have f1 := (unhide R7).free 1 (by decide)
          have a2 := (unhide R7).cell 2 _ rfl
          have f2 := (unhide R7).free 2 (by decide)
          have a3 := (unhide R7).cell 3 _ rfl
          have f3 := (unhide R7).free 3 (by decide)
          have a4 := (unhide R7).cell 4 _ rfl
          have f4 := (unhide R7).free 4 (by decide)
          have a5 := (unhide R7).cell 5 _ rfl
          have f5 := (unhide R7).free 5 (by decide)
          go_simp
          have TX' := hide (((((((unhide T7).set hA 0 (.int .i64 (HW : Nat))).set hA 1 (.int .i64 (ST : Nat))).set hA 2 (.int .i64 (CR : Nat))).set hA 3 (.int .i64 (PK : Nat))).set hA 4 (.int .i64 (LN : Nat))).set hA 5 (.string ⟨#[]⟩))
          have RX' := hide (((((((unhide R7).set 0 (.int .i64 (HW : Nat))).set 1 (.int .i64 (ST : Nat))).set 2 (.int .i64 (CR : Nat))).set 3 (.int .i64 (PK : Nat))).set 4 (.int .i64 (LN : Nat))).set 5 (.string ⟨#[]⟩))
          have GX' := hide (((((((unhide G7).set (Nat.ne_of_lt hBA) (Nat.ne_of_lt hgA) 0 (.int .i64 (HW : Nat))).set (Nat.ne_of_lt hBA) (Nat.ne_of_lt hgA) 1 (.int .i64 (ST : Nat))).set (Nat.ne_of_lt hBA) (Nat.ne_of_lt hgA) 2 (.int .i64 (CR : Nat))).set (Nat.ne_of_lt hBA) (Nat.ne_of_lt hgA) 3 (.int .i64 (PK : Nat))).set (Nat.ne_of_lt hBA) (Nat.ne_of_lt hgA) 4 (.int .i64 (LN : Nat))).set (Nat.ne_of_lt hBA) (Nat.ne_of_lt hgA) 5 (.string ⟨#[]⟩))
          clear a0 f0 a1 f1 a2 f2 a3 f3 a4 f4 a5 f5
          refine Shut.out hK _ _ (unhide GX') (fun hS => ?_)
          clear hK K
          refine wpAnyH_done (by kernel_rfl) ?_ _
          go_wp2_with fail
          go_meet
          case rel => exact ⟨A, rfl, hA, hBA, hgA, unhide TX', unhide GX', unhide RX'⟩
      case rest =>
        obtain ⟨A, rfl, hA, hBA, hgA, T2', G2', R2'⟩ := hcut
        have T2 := hide T2'
        have G2 := hide G2'
        have R2 := hide R2'
        clear T2' G2' R2' T1 G1 C5 C7 C9 C11
        have c0 := (unhide G2).1.cell 0 _ rfl
        have c13 := unhide W13 _ (unhide G2)
        have r3 := (unhide R2).cell 3 _ rfl
        have r5 := (unhide R2).cell 5 _ rfl
        have q5 := (unhide R2).free 5 (by simp)
        have hw30 : IntKind.i64.wrap (30 + (NL : Int)) = 30 + (NL : Int) := by rw [IntKind.wrap_i64]; omega
        have hw31 : IntKind.i64.wrap (30 + (NL : Int) + (PK : Int)) = 30 + (NL : Int) + (PK : Int) := by rw [IntKind.wrap_i64]; omega
        by_cases hto : 30 + NL + PK ≤ s.size
        · have htoI : 30 + (NL : Int) + (PK : Int) ≤ (s.size : Int) := by omega
          have htoJ : decide ((s.size : Int) < 30 + (NL : Int) + (PK : Int)) = false := by simpa using htoI
          have hn30 : (30 + (NL : Int)).toNat = 30 + NL := by omega
          have hn31 : (30 + (NL : Int) + (PK : Int)).toNat = 30 + NL + PK := by omega
          have hq30 : 30 ≤ 30 + (NL : Int) := by omega
          have hq31 : 30 + (NL : Int) ≤ 30 + (NL : Int) + (PK : Int) := by omega
          have hq32 : 0 ≤ 30 + (NL : Int) + (PK : Int) := by omega
          have hq33 : 30 + (NL : Int) ≤ (s.size : Int) := by omega
          have hq34 : 0 ≤ 30 + (NL : Int) := by omega
          have hx1 : s.extract 30 (30 + NL) = nmB s := by unfold nmB; rw [(unhide HALL).2.2.2.2.2]
          have hx2 : s.extract (30 + NL) (30 + NL + PK) = bdB s := by unfold bdB; rw [(unhide HALL).2.2.2.2.2, (unhide HALL).2.2.2.1]
          have HPr : Hid ((headB HW ST CR PK LN (nmB s)).data.toList.isPrefixOf s.data.toList = fixB s.data.toList) := by
            have hh := head_pre (l := s.data.toList) (nm := nmB s) (by rw [(unhide HALL).2.2.2.2.2]; simp; omega) (nmB_list s)
            rw [(unhide HALL).1, (unhide HALL).2.1, (unhide HALL).2.2.1, (unhide HALL).2.2.2.1, (unhide HALL).2.2.2.2.1] at hh
            exact hh
          have hnz : (nmB s).size < 65536 := by rw [nmB_size (by rw [(unhide HALL).2.2.2.2.2]; omega)]; exact wd_two _ _
          have HE : Hid (∀ b, fixB s.data.toList = b → HgP s (.returned (.tuple #[.agg #[.int .i64 (HW : Nat), .int .i64 (ST : Nat), .int .i64 (CR : Nat), .int .i64 (PK : Nat), .int .i64 (LN : Nat), .string (nmB s), .string (bdB s)], .bool b]))) := fun b hb => by
            have hd : hdB s = b := by
              unfold hdB
              rw [hb, (unhide HALL).2.2.2.2.2, (unhide HALL).2.2.2.1, decide_eq_true (unhide H30), decide_eq_true hto]; simp
            cases b
            · exact hg_no hd _ _ _ _ _ _ _
            · refine .inl ⟨hd, ?_⟩
              rw [(unhide HALL).1, (unhide HALL).2.1, (unhide HALL).2.2.1, (unhide HALL).2.2.2.1, (unhide HALL).2.2.2.2.1]
          generalize hNM : nmB s = NM at *
          generalize hBD : bdB s = BD at *
          obtain ⟨l1, l2, l3, l4, l5, l6⟩ := unhide HLT
          have CH := hide (fun W => head_any HW ST CR PK LN NM BD W l1 l2 l3 l4 l5 hnz)
          have CP : Hid (∀ W, Calls Tryz.prog 59 #[.string s, .string (headB HW ST CR PK LN NM)] W fun e w' => e = .returned (.bool (fixB s.data.toList)) ∧ w' = W) := fun W => by
            have h := Tryz.strings_HasPrefix s (headB HW ST CR PK LN NM) W
            have e : Lib.hasPrefix s.data.toList (headB HW ST CR PK LN NM).data.toList = fixB s.data.toList := unhide HPr
            rw [e] at h
            exact h
          generalize fixB s.data.toList = fb at *
          generalize headB HW ST CR PK LN NM = HB at *
          clear hNM hBD l1 l2 l3 l4 l5 l6 hto HPr hnz
          have T3 := hide ((unhide T2).set hA 5 (.string NM))
          have R3 := hide ((unhide R2).set 5 (.string NM))
          clear T2 R2 G2 W4 W13
          go_wp2_with fail
          clear c0 c13 r3 r5 q5
          generalize wc.setCell ⟨A, 5, none⟩ (.string NM) = X3 at *
          refine wp_region_held_drew (S := fun W => Blk W A [.int .i64 (HW : Nat), .int .i64 (ST : Nat), .int .i64 (CR : Nat), .int .i64 (PK : Nat), .int .i64 (LN : Nat), .string NM]) hmix (unhide R3).drew (fun hS => ?_)
          refine wpAnyH_take (i := 0) (v := .agg #[.int .i64 (HW : Nat), .int .i64 (ST : Nat), .int .i64 (CR : Nat), .int .i64 (PK : Nat), .int .i64 (LN : Nat), .string NM]) rfl (by kernel_rfl) (by kernel_rfl) (by kernel_rfl) (fun _ _ _ h => h) (Or.inl ⟨by rfl, fun W hSw => by have s0 := Blk.cell hSw 0 _ rfl; have s1 := Blk.cell hSw 1 _ rfl; have s2 := Blk.cell hSw 2 _ rfl; have s3 := Blk.cell hSw 3 _ rfl; have s4 := Blk.cell hSw 4 _ rfl; have s5 := Blk.cell hSw 5 _ rfl; go_simp⟩) hS ?_
          refine wpAnyH_take (i := 1) (v := .string s) rfl (by kernel_rfl) (by kernel_rfl) (by kernel_rfl) (fun _ _ _ h => h) (Or.inl ⟨by rfl, fun W hSw => by go_simp⟩) hS ?_
          refine wpAnyH_take (i := 2) (v := .int .i64 (30 + (NL : Int))) rfl (by kernel_rfl) (by kernel_rfl) (by kernel_rfl) (fun _ _ _ h => h) (Or.inl ⟨by rfl, fun W hSw => by go_simp⟩) hS ?_
          refine wpAnyH_take (i := 3) (v := .int .i64 (30 + (NL : Int))) rfl (by kernel_rfl) (by kernel_rfl) (by kernel_rfl) (fun _ _ _ h => h) (Or.inl ⟨by rfl, fun W hSw => by go_simp⟩) hS ?_
          refine wpAnyH_take (i := 4) (v := .pointer (some ⟨A, 3, none⟩)) rfl (by kernel_rfl) (by kernel_rfl) (by kernel_rfl) (fun _ _ _ h => h) (Or.inl ⟨by rfl, fun W hSw => by go_simp⟩) hS ?_
          refine wpAnyH_take (i := 5) (v := .int .i64 (PK : Nat)) rfl (by kernel_rfl) (by kernel_rfl) (by kernel_rfl) (fun _ _ _ h => h) (Or.inl ⟨by rfl, fun W hSw => by have s3 := Blk.cell hSw 3 _ rfl; go_simp⟩) hS ?_
          refine wpAnyH_take (i := 6) (v := .int .i64 (30 + (NL : Int) + (PK : Int))) rfl (by kernel_rfl) (by kernel_rfl) (by kernel_rfl) (fun _ _ _ h => h) (Or.inl ⟨by rfl, fun W hSw => by go_simp⟩) hS ?_
          refine wpAnyH_take (i := 7) (v := .string BD) rfl (by kernel_rfl) (by kernel_rfl) (by kernel_rfl) (fun _ _ _ h => h) (Or.inl ⟨by rfl, fun W hSw => by go_simp⟩) hS ?_
          refine wpAnyH_take (i := 8) (v := .agg #[.int .i64 (HW : Nat), .int .i64 (ST : Nat), .int .i64 (CR : Nat), .int .i64 (PK : Nat), .int .i64 (LN : Nat), .string NM, .string BD]) rfl (by kernel_rfl) (by kernel_rfl) (by kernel_rfl) (fun _ _ _ h => h) (Or.inl ⟨by rfl, fun W hSw => by go_simp⟩) hS ?_
          have T4 := hide (unhide T3).drew
          have R4 := hide (unhide R3).drew
          clear T3 R3
          generalize X3.drew = W4 at *
          refine wpAnyH_ready (rs := [9]) (by kernel_rfl) (by simp) ?_
          refine AllReadyH.cons rfl (fun K hK => ?_) (AllReadyH.nil)
          go_simp
          have Bd : Below W4.heap.size W4 (W4.alloc (.cells #[.int .i64 0, .int .i64 0, .int .i64 0, .int .i64 0, .int .i64 0, .string ⟨#[]⟩, .string ⟨#[]⟩] 48)) := (Below.refl _ _).alloc (Nat.le_refl _) _
          have T5 := hide ((unhide T4).later Bd)
          have R5 := hide ((unhide R4).later Bd (unhide R4).1)
          have L5 : Hid (Blk (W4.alloc (.cells #[.int .i64 0, .int .i64 0, .int .i64 0, .int .i64 0, .int .i64 0, .string ⟨#[]⟩, .string ⟨#[]⟩] 48)) W4.heap.size [.int .i64 0, .int .i64 0, .int .i64 0, .int .i64 0, .int .i64 0, .string ⟨#[]⟩, .string ⟨#[]⟩]) := blk_alloc _ _ _
          have hL : w.heap.size < W4.heap.size := (unhide T4).2.1
          have hLA : A < W4.heap.size := (unhide R4).1
          refine Shut.out hK _ _ (unhide R5) (fun hS => ?_)
          clear hK K
          obtain ⟨L, hLe⟩ : ∃ x, W4.heap.size = x := ⟨_, rfl⟩
          obtain ⟨W5, hW5⟩ : ∃ x, W4.alloc (.cells #[.int .i64 0, .int .i64 0, .int .i64 0, .int .i64 0, .int .i64 0, .string ⟨#[]⟩, .string ⟨#[]⟩] 48) = x := ⟨_, rfl⟩
          rw [hW5] at T5 R5 hS
          rw [hLe, hW5] at L5
          rw [hLe] at hL hLA
          rw [hLe, hW5]
          clear Bd hLe hW5 T4 R4
          refine wpAnyH_ready (rs := [10]) (by kernel_rfl) (by simp) ?_
          refine AllReadyH.cons rfl (fun K hK => ?_) (AllReadyH.nil)
          have a0 := (unhide L5).cell 0 _ rfl
          have f0 := (unhide L5).free 0 (by decide)
          have a1 := (unhide L5).cell 1 _ rfl
          have f1 := (unhide L5).free 1 (by decide)
          have a2 := (unhide L5).cell 2 _ rfl
          have f2 := (unhide L5).free 2 (by decide)
          have a3 := (unhide L5).cell 3 _ rfl
          have f3 := (unhide L5).free 3 (by decide)
          have a4 := (unhide L5).cell 4 _ rfl
          have f4 := (unhide L5).free 4 (by decide)
          have a5 := (unhide L5).cell 5 _ rfl
          have f5 := (unhide L5).free 5 (by decide)
          have a6 := (unhide L5).cell 6 _ rfl
          have f6 := (unhide L5).free 6 (by decide)
          go_simp
          have T6 := hide ((((((((unhide T5).set hL 0 (.int .i64 (HW : Nat))).set hL 1 (.int .i64 (ST : Nat))).set hL 2 (.int .i64 (CR : Nat))).set hL 3 (.int .i64 (PK : Nat))).set hL 4 (.int .i64 (LN : Nat))).set hL 5 (.string NM)).set hL 6 (.string BD))
          have L6 := hide ((((((((unhide L5).set 0 (.int .i64 (HW : Nat))).set 1 (.int .i64 (ST : Nat))).set 2 (.int .i64 (CR : Nat))).set 3 (.int .i64 (PK : Nat))).set 4 (.int .i64 (LN : Nat))).set 5 (.string NM)).set 6 (.string BD))
          have R6 := hide (Blk.set_other (o := 6) (Blk.set_other (o := 5) (Blk.set_other (o := 4) (Blk.set_other (o := 3) (Blk.set_other (o := 2) (Blk.set_other (o := 1) (Blk.set_other (o := 0) (unhide R5) (.int .i64 (HW : Nat)) (Nat.ne_of_lt hLA)) (.int .i64 (ST : Nat)) (Nat.ne_of_lt hLA)) (.int .i64 (CR : Nat)) (Nat.ne_of_lt hLA)) (.int .i64 (PK : Nat)) (Nat.ne_of_lt hLA)) (.int .i64 (LN : Nat)) (Nat.ne_of_lt hLA)) (.string NM) (Nat.ne_of_lt hLA)) (.string BD) (Nat.ne_of_lt hLA))
          clear a0 f0 a1 f1 a2 f2 a3 f3 a4 f4 a5 f5 a6 f6 T5 R5 L5
          refine Shut.out hK _ _ (unhide R6) (fun hS => ?_)
          clear hK K
          refine wpAnyH_done (by kernel_rfl) ?_ _
          clear hS
          obtain ⟨X6, hX6⟩ : ∃ x, (((((((W5.setCell ⟨L, 0, none⟩ (.int .i64 (HW : Nat))).setCell ⟨L, 1, none⟩ (.int .i64 (ST : Nat))).setCell ⟨L, 2, none⟩ (.int .i64 (CR : Nat))).setCell ⟨L, 3, none⟩ (.int .i64 (PK : Nat))).setCell ⟨L, 4, none⟩ (.int .i64 (LN : Nat))).setCell ⟨L, 5, none⟩ (.string NM)).setCell ⟨L, 6, none⟩ (.string BD)) = x := ⟨_, rfl⟩
          rw [hX6] at T6 L6
          rw [hX6]
          clear hX6 R6
          go_wp2_with fail
          refine wp_region_held_drew (S := fun W => Blk W L [.int .i64 (HW : Nat), .int .i64 (ST : Nat), .int .i64 (CR : Nat), .int .i64 (PK : Nat), .int .i64 (LN : Nat), .string NM, .string BD]) hmix (unhide L6).drew (fun hS => ?_)
          refine wpAnyH_take (i := 0) (v := .agg #[.int .i64 (HW : Nat), .int .i64 (ST : Nat), .int .i64 (CR : Nat), .int .i64 (PK : Nat), .int .i64 (LN : Nat), .string NM, .string BD]) rfl (by kernel_rfl) (by kernel_rfl) (by kernel_rfl) (fun _ _ _ h => h) (Or.inl ⟨by rfl, fun W hSw => by have s0 := Blk.cell hSw 0 _ rfl; have s1 := Blk.cell hSw 1 _ rfl; have s2 := Blk.cell hSw 2 _ rfl; have s3 := Blk.cell hSw 3 _ rfl; have s4 := Blk.cell hSw 4 _ rfl; have s5 := Blk.cell hSw 5 _ rfl; have s6 := Blk.cell hSw 6 _ rfl; go_simp⟩) hS ?_
          refine wpAnyH_take (i := 1) (v := .string s) rfl (by kernel_rfl) (by kernel_rfl) (by kernel_rfl) (fun _ _ _ h => h) (Or.inl ⟨by rfl, fun W hSw => by go_simp⟩) hS ?_
          refine wpAnyH_take (i := 2) (v := .agg #[.int .i64 (HW : Nat), .int .i64 (ST : Nat), .int .i64 (CR : Nat), .int .i64 (PK : Nat), .int .i64 (LN : Nat), .string NM, .string BD]) rfl (by kernel_rfl) (by kernel_rfl) (by kernel_rfl) (fun _ _ _ h => h) (Or.inl ⟨by rfl, fun W hSw => by have s0 := Blk.cell hSw 0 _ rfl; have s1 := Blk.cell hSw 1 _ rfl; have s2 := Blk.cell hSw 2 _ rfl; have s3 := Blk.cell hSw 3 _ rfl; have s4 := Blk.cell hSw 4 _ rfl; have s5 := Blk.cell hSw 5 _ rfl; have s6 := Blk.cell hSw 6 _ rfl; go_simp⟩) hS ?_
          have T7 := hide (unhide T6).drew
          have L7 := hide (unhide L6).drew
          clear T6 L6
          generalize X6.drew = W7 at *
          refine wpAnyH_ready (rs := [3]) (by kernel_rfl) (by simp) ?_
          refine AllReadyH.cons rfl (fun K hK => ?_) (AllReadyH.nil)
          go_simp
          go_at_call 44
          refine (unhide CH W7).mono ?_
          rintro e W8 ⟨rfl, Bd⟩
          have T8 := hide ((unhide T7).later Bd)
          have L8 := hide ((unhide L7).later Bd (unhide L7).1)
          refine Shut.out hK _ _ (unhide L8) (fun hS => ?_)
          clear hK K
          clear Bd T7 L7
          refine wpAnyH_ready (rs := [4]) (by kernel_rfl) (by simp) ?_
          refine AllReadyH.cons rfl (fun K hK => ?_) (AllReadyH.nil)
          go_simp
          go_at_call 59
          refine (unhide CP W8).mono ?_
          rintro e W9 ⟨rfl, rfl⟩
          refine Shut.out hK _ _ (unhide L8) (fun hS => ?_)
          clear hK K
          refine wpAnyH_ready (rs := [5]) (by kernel_rfl) (by simp) ?_
          refine AllReadyH.cons rfl (fun K hK => ?_) (AllReadyH.nil)
          have b0 := (unhide T8).2.cell 0 _ rfl
          have g0 := (unhide T8).2.free 0 (by decide)
          have b1 := (unhide T8).2.cell 1 _ rfl
          have g1 := (unhide T8).2.free 1 (by decide)
          have b2 := (unhide T8).2.cell 2 _ rfl
          have g2 := (unhide T8).2.free 2 (by decide)
          have b3 := (unhide T8).2.cell 3 _ rfl
          have g3 := (unhide T8).2.free 3 (by decide)
          have b4 := (unhide T8).2.cell 4 _ rfl
          have g4 := (unhide T8).2.free 4 (by decide)
          have b5 := (unhide T8).2.cell 5 _ rfl
          have g5 := (unhide T8).2.free 5 (by decide)
          have b6 := (unhide T8).2.cell 6 _ rfl
          have g6 := (unhide T8).2.free 6 (by decide)
          go_simp
          have TZ := hide (below_set (o := 6) (below_set (o := 5) (below_set (o := 4) (below_set (o := 3) (below_set (o := 2) (below_set (o := 1) (below_set (o := 0) (unhide T8).1 (Nat.le_refl _) (.int .i64 (HW : Nat))) (Nat.le_refl _) (.int .i64 (ST : Nat))) (Nat.le_refl _) (.int .i64 (CR : Nat))) (Nat.le_refl _) (.int .i64 (PK : Nat))) (Nat.le_refl _) (.int .i64 (LN : Nat))) (Nat.le_refl _) (.string NM)) (Nat.le_refl _) (.string BD))
          have ZZ := hide ((((((((unhide T8).2.set 0 (.int .i64 (HW : Nat))).set 1 (.int .i64 (ST : Nat))).set 2 (.int .i64 (CR : Nat))).set 3 (.int .i64 (PK : Nat))).set 4 (.int .i64 (LN : Nat))).set 5 (.string NM)).set 6 (.string BD))
          have LZ := hide (Blk.set_other (o := 6) (Blk.set_other (o := 5) (Blk.set_other (o := 4) (Blk.set_other (o := 3) (Blk.set_other (o := 2) (Blk.set_other (o := 1) (Blk.set_other (o := 0) (unhide L8) (.int .i64 (HW : Nat)) (Nat.ne_of_gt hL)) (.int .i64 (ST : Nat)) (Nat.ne_of_gt hL)) (.int .i64 (CR : Nat)) (Nat.ne_of_gt hL)) (.int .i64 (PK : Nat)) (Nat.ne_of_gt hL)) (.int .i64 (LN : Nat)) (Nat.ne_of_gt hL)) (.string NM) (Nat.ne_of_gt hL)) (.string BD) (Nat.ne_of_gt hL))
          clear b0 g0 b1 g1 b2 g2 b3 g3 b4 g4 b5 g5 b6 g6
          refine Shut.out hK _ _ (unhide LZ) (fun hS => ?_)
          clear hK K
          refine wpAnyH_ready (rs := [6]) (by kernel_rfl) (by simp) ?_
          refine AllReadyH.cons rfl (fun K hK => ?_) (AllReadyH.nil)
          go_simp
          refine Shut.out hK _ _ (unhide LZ) (fun hS => ?_)
          clear hK K
          refine wpAnyH_done (by kernel_rfl) ?_ _
          go_wp2
          have z0 := (unhide ZZ).cell 0 _ rfl
          have z1 := (unhide ZZ).cell 1 _ rfl
          have z2 := (unhide ZZ).cell 2 _ rfl
          have z3 := (unhide ZZ).cell 3 _ rfl
          have z4 := (unhide ZZ).cell 4 _ rfl
          have z5 := (unhide ZZ).cell 5 _ rfl
          have z6 := (unhide ZZ).cell 6 _ rfl
          refine bodyPost_ret (v := .tuple #[.agg #[.int .i64 (HW : Nat), .int .i64 (ST : Nat), .int .i64 (CR : Nat), .int .i64 (PK : Nat), .int .i64 (LN : Nat), .string NM, .string BD], .bool fb]) (by simp [results, Tryz.results30, go_sem, z0, z1, z2, z3, z4, z5, z6]) rfl ⟨unhide HE _ rfl, unhide TZ⟩
        · have htoI : (s.size : Int) < 30 + (NL : Int) + (PK : Int) := by omega
          have HE : Hid (hdB s = false) := by
            show _ = _
            unfold hdB
            rw [(unhide HALL).2.2.2.2.2, (unhide HALL).2.2.2.1, decide_eq_false hto]; simp
          clear hto
          have b0 := (unhide T2).2.cell 0 _ rfl
          have g0 := (unhide T2).2.free 0 (by decide)
          have b1 := (unhide T2).2.cell 1 _ rfl
          have g1 := (unhide T2).2.free 1 (by decide)
          have b2 := (unhide T2).2.cell 2 _ rfl
          have g2 := (unhide T2).2.free 2 (by decide)
          have b3 := (unhide T2).2.cell 3 _ rfl
          have g3 := (unhide T2).2.free 3 (by decide)
          have b4 := (unhide T2).2.cell 4 _ rfl
          have g4 := (unhide T2).2.free 4 (by decide)
          have b5 := (unhide T2).2.cell 5 _ rfl
          have g5 := (unhide T2).2.free 5 (by decide)
          have b6 := (unhide T2).2.cell 6 _ rfl
          have g6 := (unhide T2).2.free 6 (by decide)
          have TZ := hide (below_set (o := 6) (below_set (o := 5) (below_set (o := 4) (below_set (o := 3) (below_set (o := 2) (below_set (o := 1) (below_set (o := 0) (unhide T2).1 (Nat.le_refl _) (.int .i64 0)) (Nat.le_refl _) (.int .i64 0)) (Nat.le_refl _) (.int .i64 0)) (Nat.le_refl _) (.int .i64 0)) (Nat.le_refl _) (.int .i64 0)) (Nat.le_refl _) (.string ⟨#[]⟩)) (Nat.le_refl _) (.string ⟨#[]⟩))
          have ZZ := hide ((((((((unhide T2).2.set 0 (.int .i64 0)).set 1 (.int .i64 0)).set 2 (.int .i64 0)).set 3 (.int .i64 0)).set 4 (.int .i64 0)).set 5 (.string ⟨#[]⟩)).set 6 (.string ⟨#[]⟩))
          go_wp2
          have z0 := (unhide ZZ).cell 0 _ rfl
          have z1 := (unhide ZZ).cell 1 _ rfl
          have z2 := (unhide ZZ).cell 2 _ rfl
          have z3 := (unhide ZZ).cell 3 _ rfl
          have z4 := (unhide ZZ).cell 4 _ rfl
          have z5 := (unhide ZZ).cell 5 _ rfl
          have z6 := (unhide ZZ).cell 6 _ rfl
          refine bodyPost_ret (v := .tuple #[.agg #[.int .i64 0, .int .i64 0, .int .i64 0, .int .i64 0, .int .i64 0, .string ⟨#[]⟩, .string ⟨#[]⟩], .bool false]) (by simp [results, Tryz.results30, go_sem, z0, z1, z2, z3, z4, z5, z6]) rfl ⟨hg_no (unhide HE) 0 0 0 0 0 ⟨#[]⟩ ⟨#[]⟩, unhide TZ⟩
  · have h30I : (s.size : Int) < 30 := by omega
    have HE : Hid (hdB s = false) := by
      show _ = _
      unfold hdB
      rw [decide_eq_false h30]; simp
    clear h30
    go_enter Tryz.func30, Tryz.ntmps30
    go_wp2
    refine bodyPost_ret (v := .tuple #[.agg #[.int .i64 0, .int .i64 0, .int .i64 0, .int .i64 0, .int .i64 0, .string ⟨#[]⟩, .string ⟨#[]⟩], .bool false]) (by simp [results, Tryz.results30, go_sem]) rfl ⟨hg_no (unhide HE) 0 0 0 0 0 ⟨#[]⟩ ⟨#[]⟩, (unhide T0).1⟩
end Go.Proofs.YtbacpebljannfaaGreatDoor
namespace Go.Proofs.YtbacpebljannfaaGreatDoor
open Go.RowKit Corb
set_option maxRecDepth 100000
def EnS (w : World) (vs : List Value) (W : World) : Prop := Below w.heap.size w W ∧ Blk W w.heap.size vs ∧ Blk W (w.heap.size + 1) [.string ⟨#[]⟩, .int .i64 0, .int .i64 0, .int .i64 0, .int .i64 0, .int .i64 0, .int .i64 0, .string ⟨#[]⟩]
theorem EnS.later {w W W' : World} {vs : List Value} (k : EnS w vs W) (hb : Below W.heap.size W W') : EnS w vs W' := ⟨bnext k.1 hb, k.2.1.later hb k.2.1.1, k.2.2.later hb k.2.2.1⟩
theorem EnS.drew {w W : World} {vs : List Value} (k : EnS w vs W) : EnS w vs W.drew := ⟨k.1.drew, k.2.1.drew, k.2.2.drew⟩
theorem EnS.set {w W : World} {vs : List Value} (k : EnS w vs W) {A : Nat} (hA : w.heap.size + 1 < A) (o : Nat) (v : Value) : EnS w vs (W.setCell ⟨A, o, none⟩ v) := ⟨below_set k.1 (by omega) _, k.2.1.set_other v (by omega), k.2.2.set_other v (by omega)⟩
def enB (how st cr lg : Nat) (nm b : ByteArray) : Bool := txO how b && (gOk (st : Nat) && (entB nm (zz (gOk (st : Nat)) (gY (st : Nat))) (zz (gOk (st : Nat)) (gM (st : Nat))) (zz (gOk (st : Nat)) (gD (st : Nat))) (zz (gOk (st : Nat)) (gH (st : Nat))) (zz (gOk (st : Nat)) (gI (st : Nat))) (zz (gOk (st : Nat)) (gS (st : Nat))) (uxT how b) && (decide ((uxT how b).size = lg) && decide (crcMore 0 (uxT how b).data.toList = cr))))
def enE (st : Nat) (nm T : ByteArray) : Value := .agg #[.string nm, .int .i64 (zz (gOk (st : Nat)) (gY (st : Nat))), .int .i64 (zz (gOk (st : Nat)) (gM (st : Nat))), .int .i64 (zz (gOk (st : Nat)) (gD (st : Nat))), .int .i64 (zz (gOk (st : Nat)) (gH (st : Nat))), .int .i64 (zz (gOk (st : Nat)) (gI (st : Nat))), .int .i64 (zz (gOk (st : Nat)) (gS (st : Nat))), .string T]
set_option maxHeartbeats 12800000 in
theorem lhEntry_any (how st cr pk lg : Nat) (nm b : ByteArray) (m : Int) (w : World) (hb : b.size ≤ 1048576) (hh : how < 65536) (h1 : st < 4294967296) (h2 : cr < 4294967296) (h3 : lg < 4294967296) (hn : nm.size ≤ 1048576) (hm : w.cell? ⟨1, 0, none⟩ = some (.int .i64 m)) (hO : OrdC w) :
    Calls Tryz.prog 31 #[.agg #[.int .i64 (how : Nat), .int .i64 (st : Nat), .int .i64 (cr : Nat), .int .i64 (pk : Nat), .int .i64 (lg : Nat), .string nm, .string b]] w fun e w' => e = Ending.returned (if enB how st cr lg nm b = true then .tuple #[enE st nm (uxT how b), .bool true] else .tuple #[noE, .bool false]) ∧ Below w.heap.size w w' := by
  have hmix : Tryz.prog.follows .mixedOrders = true := by kernel_rfl
  have hux := ux_small (how := how) (b := b) hb
  have HM := hide hm
  have hmb := hide (World.block_lt_of_cell? _ _ hm)
  have CM := hide (fun W (hb : Below w.heap.size w W) => (hb.cell (p := ⟨1, 0, none⟩) (unhide hmb)).trans (unhide HM))
  have HO := hide (fun W (hb : Below w.heap.size w W) => hO.later hb)
  have CU := hide (fun W (h : OrdC W) => lhUnp_any how (st : Int) (cr : Int) (pk : Int) (lg : Int) nm b W hb hh h)
  have CC := hide (fun W => sClone_any nm W (by omega))
  have CCr := hide (fun W => implCrc_any (uxT how b) W (by unfold maxLen; omega))
  have CS : Hid (∀ W, Calls Tryz.prog 61 #[.int .i64 (st : Nat)] W fun e w' => e = .returned (.tuple #[.agg #[.int .i64 (zz (gOk (st : Nat)) (gY (st : Nat))), .int .i64 (zz (gOk (st : Nat)) (gM (st : Nat))), .int .i64 (zz (gOk (st : Nat)) (gD (st : Nat))), .int .i64 (zz (gOk (st : Nat)) (gH (st : Nat))), .int .i64 (zz (gOk (st : Nat)) (gI (st : Nat))), .int .i64 (zz (gOk (st : Nat)) (gS (st : Nat)))], .bool (gOk (st : Nat))]) ∧ Below W.heap.size W w') := fun W => implStampGet_any _ W (WalkArith.wf_i64 (by omega))
  have CE := hide (fun W (hb : Below w.heap.size w W) => implEntryOk_any nm (zz (gOk (st : Nat)) (gY (st : Nat))) (zz (gOk (st : Nat)) (gM (st : Nat))) (zz (gOk (st : Nat)) (gD (st : Nat))) (zz (gOk (st : Nat)) (gH (st : Nat))) (zz (gOk (st : Nat)) (gI (st : Nat))) (zz (gOk (st : Nat)) (gS (st : Nat))) (uxT how b) m W (by omega) (by omega) (unhide CM _ hb))
  obtain ⟨RES, hRES⟩ : ∃ x, Ending.returned (if enB how st cr lg nm b = true then .tuple #[enE st nm (uxT how b), .bool true] else .tuple #[noE, .bool false]) = x := ⟨_, rfl⟩
  rw [hRES]
  have HRES := hide hRES
  clear hRES hm hO
  unfold enB enE at HRES
  have hcr : crcMore 0 (uxT how b).data.toList < 4294967296 := crcMore_lt _ _ (by omega)
  generalize txO how b = OK at *
  generalize uxT how b = UT at *
  generalize zz (gOk (st : Nat)) (gY (st : Nat)) = yy at *
  generalize zz (gOk (st : Nat)) (gM (st : Nat)) = mo at *
  generalize zz (gOk (st : Nat)) (gD (st : Nat)) = dd at *
  generalize zz (gOk (st : Nat)) (gH (st : Nat)) = hh' at *
  generalize zz (gOk (st : Nat)) (gI (st : Nat)) = mi at *
  generalize zz (gOk (st : Nat)) (gS (st : Nat)) = ss at *
  generalize gOk (st : Nat) = GO at *
  generalize entB nm yy mo dd hh' mi ss UT = EB at *
  generalize crcMore 0 UT.data.toList = cu at *
  have hcuI : (cu : Int) < 4294967296 := by omega
  have hcrI : (cr : Int) < 4294967296 := by omega
  have hlgI : (lg : Int) < 4294967296 := by omega
  have huI : (UT.size : Int) ≤ 1048576 := by omega
  have T0 : Hid (EnS w [.int .i64 (how : Nat), .int .i64 (st : Nat), .int .i64 (cr : Nat), .int .i64 (pk : Nat), .int .i64 (lg : Nat), .string nm, .string b] ((w.alloc (.cells #[.int .i64 (how : Nat), .int .i64 (st : Nat), .int .i64 (cr : Nat), .int .i64 (pk : Nat), .int .i64 (lg : Nat), .string nm, .string b] 48)).alloc (.cells #[.string ⟨#[]⟩, .int .i64 0, .int .i64 0, .int .i64 0, .int .i64 0, .int .i64 0, .int .i64 0, .string ⟨#[]⟩] 30))) := by
    have e1 := blk_alloc w #[.int .i64 (how : Nat), .int .i64 (st : Nat), .int .i64 (cr : Nat), .int .i64 (pk : Nat), .int .i64 (lg : Nat), .string nm, .string b] 48
    have e2 := blk_alloc (w.alloc (.cells #[.int .i64 (how : Nat), .int .i64 (st : Nat), .int .i64 (cr : Nat), .int .i64 (pk : Nat), .int .i64 (lg : Nat), .string nm, .string b] 48)) #[.string ⟨#[]⟩, .int .i64 0, .int .i64 0, .int .i64 0, .int .i64 0, .int .i64 0, .int .i64 0, .string ⟨#[]⟩] 30
    have e3 : (w.alloc (.cells #[.int .i64 (how : Nat), .int .i64 (st : Nat), .int .i64 (cr : Nat), .int .i64 (pk : Nat), .int .i64 (lg : Nat), .string nm, .string b] 48)).heap.size = w.heap.size + 1 := by simp
    rw [e3] at e2
    exact ⟨((Below.refl _ _).alloc (Nat.le_refl _) _).alloc (by rw [e3]; exact Nat.le_succ _) _, e1.later ((Below.refl _ _).alloc (Nat.le_refl _) _) (by simp), e2⟩
  clear hb hh hux hcr h1 h2 h3 hn
  go_enter Tryz.func31, Tryz.ntmps31
  go_wp2_with fail
  refine (unhide CU _ (unhide HO _ (unhide T0).1)).mono ?_
  rintro e x1 ⟨rfl, hb1⟩
  have T1 := hide ((unhide T0).later hb1)
  clear hb1 T0
  have c1 := (unhide T1).2.1.cell 1 _ rfl
  go_wp2_with fail
  refine (unhide CS _).mono ?_
  rintro e x2 ⟨rfl, hb2⟩
  have T2 := hide ((unhide T1).later hb2)
  clear hb2 T1 c1
  have T3 := hide ((unhide T2).later ((Below.refl x2.heap.size x2).alloc (Nat.le_refl _) (.cells #[.int .i64 yy, .int .i64 mo, .int .i64 dd, .int .i64 hh', .int .i64 mi, .int .i64 ss] 28)))
  have S3 := hide (blk_alloc x2 #[.int .i64 yy, .int .i64 mo, .int .i64 dd, .int .i64 hh', .int .i64 mi, .int .i64 ss] 28)
  clear T2
  go_wp2_with fail
  obtain ⟨SB, hSB⟩ : ∃ x, x2.heap.size = x := ⟨_, rfl⟩
  obtain ⟨X3, hX3⟩ : ∃ x, x2.alloc (.cells #[.int .i64 yy, .int .i64 mo, .int .i64 dd, .int .i64 hh', .int .i64 mi, .int .i64 ss] 28) = x := ⟨_, rfl⟩
  rw [hX3] at T3
  rw [hSB, hX3] at S3
  rw [hSB, hX3]
  clear hSB hX3
  go_cut [8] (fun v wx => ∃ A, v = .pointer (some ⟨A, 0, none⟩) ∧ w.heap.size + 1 < A ∧ EnS w [.int .i64 (how : Nat), .int .i64 (st : Nat), .int .i64 (cr : Nat), .int .i64 (pk : Nat), .int .i64 (lg : Nat), .string nm, .string b] wx ∧ Blk wx A [.string nm, .int .i64 yy, .int .i64 mo, .int .i64 dd, .int .i64 hh', .int .i64 mi, .int .i64 ss, .string UT])
  case first =>
    refine wp_region_held_drew (S := fun W => EnS w [.int .i64 (how : Nat), .int .i64 (st : Nat), .int .i64 (cr : Nat), .int .i64 (pk : Nat), .int .i64 (lg : Nat), .string nm, .string b] W ∧ Blk W SB [.int .i64 yy, .int .i64 mo, .int .i64 dd, .int .i64 hh', .int .i64 mi, .int .i64 ss]) hmix ⟨(unhide T3).drew, (unhide S3).drew⟩ (fun hS => ?_)
    refine wpAnyH_take (i := 0) (v := .pointer (some ⟨w.heap.size, 0, none⟩)) rfl (by kernel_rfl) (by kernel_rfl) (by kernel_rfl) (fun _ _ _ h => h) (Or.inl ⟨by rfl, fun W hSw => by go_simp⟩) hS ?_
    refine wpAnyH_take (i := 1) (v := .pointer (some ⟨w.heap.size, 5, none⟩)) rfl (by kernel_rfl) (by kernel_rfl) (by kernel_rfl) (fun _ _ _ h => h) (Or.inl ⟨by rfl, fun W hSw => by go_simp⟩) hS ?_
    refine wpAnyH_take (i := 2) (v := .string nm) rfl (by kernel_rfl) (by kernel_rfl) (by kernel_rfl) (fun _ _ _ h => h) (Or.inl ⟨by rfl, fun W hSw => by have s5 := hSw.1.2.1.cell 5 _ rfl; go_simp⟩) hS ?_
    refine wpAnyH_take (i := 4) (v := .agg #[.int .i64 yy, .int .i64 mo, .int .i64 dd, .int .i64 hh', .int .i64 mi, .int .i64 ss]) rfl (by kernel_rfl) (by kernel_rfl) (by kernel_rfl) (fun _ _ _ h => h) (Or.inl ⟨by rfl, fun W hSw => by have s0 := hSw.2.cell 0 _ rfl; have s1 := hSw.2.cell 1 _ rfl; have s2 := hSw.2.cell 2 _ rfl; have s3 := hSw.2.cell 3 _ rfl; have s4 := hSw.2.cell 4 _ rfl; have s5 := hSw.2.cell 5 _ rfl; go_simp⟩) hS ?_
    refine wpAnyH_take (i := 5) (v := .string UT) rfl (by kernel_rfl) (by kernel_rfl) (by kernel_rfl) (fun _ _ _ h => h) (Or.inl ⟨by rfl, fun W hSw => by go_simp⟩) hS ?_
    have T4 := hide (unhide T3).drew
    have S4 := hide (unhide S3).drew
    clear T3 S3
    generalize X3.drew = W4 at *
    refine wpAnyH_ready (rs := [3, 7]) (by kernel_rfl) (by simp) ?_
    refine AllReadyH.cons rfl (fun K hK => ?_) (AllReadyH.cons rfl (fun K hK => ?_) (AllReadyH.nil))
    · go_simp
      go_at_call 62
      refine (unhide CC W4).mono ?_
      rintro e W5 ⟨rfl, Bd⟩
      have T5 := hide ((unhide T4).later Bd)
      have S5 := hide ((unhide S4).later Bd (unhide S4).1)
      refine Shut.out hK _ _ ⟨unhide T5, unhide S5⟩ (fun hS => ?_)
      clear hK K
      clear Bd T4 S4
      refine wpAnyH_take (i := 6) (v := .agg #[.string nm, .int .i64 yy, .int .i64 mo, .int .i64 dd, .int .i64 hh', .int .i64 mi, .int .i64 ss, .string UT]) rfl (by kernel_rfl) (by kernel_rfl) (by kernel_rfl) (fun _ _ _ h => h) (Or.inl ⟨by rfl, fun W hSw => by go_simp⟩) hS ?_
      refine wpAnyH_ready (rs := [7]) (by kernel_rfl) (by simp) ?_
      refine AllReadyH.cons rfl (fun K hK => ?_) (AllReadyH.nil)
      go_simp
      have Bd : Below W5.heap.size W5 (W5.alloc (.cells #[.string ⟨#[]⟩, .int .i64 0, .int .i64 0, .int .i64 0, .int .i64 0, .int .i64 0, .int .i64 0, .string ⟨#[]⟩] 30)) := (Below.refl _ _).alloc (Nat.le_refl _) _
      have T6 := hide ((unhide T5).later Bd)
      have S6 := hide ((unhide S5).later Bd (unhide S5).1)
      have R6 : Hid (Blk (W5.alloc (.cells #[.string ⟨#[]⟩, .int .i64 0, .int .i64 0, .int .i64 0, .int .i64 0, .int .i64 0, .int .i64 0, .string ⟨#[]⟩] 30)) W5.heap.size [.string ⟨#[]⟩, .int .i64 0, .int .i64 0, .int .i64 0, .int .i64 0, .int .i64 0, .int .i64 0, .string ⟨#[]⟩]) := blk_alloc _ _ _
      have hA : w.heap.size + 1 < W5.heap.size := (unhide T5).2.2.1
      have hSA : SB ≠ W5.heap.size := Nat.ne_of_lt (unhide S5).1
      refine Shut.out hK _ _ ⟨unhide T6, unhide S6⟩ (fun hS => ?_)
      clear hK K
      obtain ⟨A, hAe⟩ : ∃ x, W5.heap.size = x := ⟨_, rfl⟩
      obtain ⟨W6, hW6⟩ : ∃ x, W5.alloc (.cells #[.string ⟨#[]⟩, .int .i64 0, .int .i64 0, .int .i64 0, .int .i64 0, .int .i64 0, .int .i64 0, .string ⟨#[]⟩] 30) = x := ⟨_, rfl⟩
      rw [hW6] at T6 S6 hS
      rw [hAe, hW6] at R6
      rw [hAe] at hA hSA
      rw [hAe, hW6]
      clear Bd hAe hW6 T5 S5
      refine wpAnyH_ready (rs := [8]) (by kernel_rfl) (by simp) ?_
      refine AllReadyH.cons rfl (fun K hK => ?_) (AllReadyH.nil)
      have a0 := (unhide R6).cell 0 _ rfl
      have f0 := (unhide R6).free 0 (by decide)
      have a1 := (unhide R6).cell 1 _ rfl
      have f1 := (unhide R6).free 1 (by decide)
      have a2 := (unhide R6).cell 2 _ rfl
      have f2 := (unhide R6).free 2 (by decide)
      have a3 := (unhide R6).cell 3 _ rfl
      have f3 := (unhide R6).free 3 (by decide)
      have a4 := (unhide R6).cell 4 _ rfl
      have f4 := (unhide R6).free 4 (by decide)
      have a5 := (unhide R6).cell 5 _ rfl
      have f5 := (unhide R6).free 5 (by decide)
      have a6 := (unhide R6).cell 6 _ rfl
      have f6 := (unhide R6).free 6 (by decide)
      have a7 := (unhide R6).cell 7 _ rfl
      have f7 := (unhide R6).free 7 (by decide)
      go_simp
      have TX := hide (((((((((unhide T6).set hA 0 (.string nm)).set hA 1 (.int .i64 yy)).set hA 2 (.int .i64 mo)).set hA 3 (.int .i64 dd)).set hA 4 (.int .i64 hh')).set hA 5 (.int .i64 mi)).set hA 6 (.int .i64 ss)).set hA 7 (.string UT))
      have RX := hide (((((((((unhide R6).set 0 (.string nm)).set 1 (.int .i64 yy)).set 2 (.int .i64 mo)).set 3 (.int .i64 dd)).set 4 (.int .i64 hh')).set 5 (.int .i64 mi)).set 6 (.int .i64 ss)).set 7 (.string UT))
      have SX := hide (Blk.set_other (o := 7) (Blk.set_other (o := 6) (Blk.set_other (o := 5) (Blk.set_other (o := 4) (Blk.set_other (o := 3) (Blk.set_other (o := 2) (Blk.set_other (o := 1) (Blk.set_other (o := 0) (unhide S6) (.string nm) hSA) (.int .i64 yy) hSA) (.int .i64 mo) hSA) (.int .i64 dd) hSA) (.int .i64 hh') hSA) (.int .i64 mi) hSA) (.int .i64 ss) hSA) (.string UT) hSA)
      clear a0 f0 a1 f1 a2 f2 a3 f3 a4 f4 a5 f5 a6 f6 a7 f7
      refine Shut.out hK _ _ ⟨unhide TX, unhide SX⟩ (fun hS => ?_)
      clear hK K
      refine wpAnyH_done (by kernel_rfl) ?_ _
      go_wp2_with fail
      go_meet
      case rel => exact ⟨A, rfl, hA, unhide TX, unhide RX⟩
    · go_simp
      have Bd : Below W4.heap.size W4 (W4.alloc (.cells #[.string ⟨#[]⟩, .int .i64 0, .int .i64 0, .int .i64 0, .int .i64 0, .int .i64 0, .int .i64 0, .string ⟨#[]⟩] 30)) := (Below.refl _ _).alloc (Nat.le_refl _) _
      have T5 := hide ((unhide T4).later Bd)
      have S5 := hide ((unhide S4).later Bd (unhide S4).1)
      have R5 : Hid (Blk (W4.alloc (.cells #[.string ⟨#[]⟩, .int .i64 0, .int .i64 0, .int .i64 0, .int .i64 0, .int .i64 0, .int .i64 0, .string ⟨#[]⟩] 30)) W4.heap.size [.string ⟨#[]⟩, .int .i64 0, .int .i64 0, .int .i64 0, .int .i64 0, .int .i64 0, .int .i64 0, .string ⟨#[]⟩]) := blk_alloc _ _ _
      have hA : w.heap.size + 1 < W4.heap.size := (unhide T4).2.2.1
      have hSA : SB ≠ W4.heap.size := Nat.ne_of_lt (unhide S4).1
      refine Shut.out hK _ _ ⟨unhide T5, unhide S5⟩ (fun hS => ?_)
      clear hK K
      obtain ⟨A, hAe⟩ : ∃ x, W4.heap.size = x := ⟨_, rfl⟩
      obtain ⟨W5, hW5⟩ : ∃ x, W4.alloc (.cells #[.string ⟨#[]⟩, .int .i64 0, .int .i64 0, .int .i64 0, .int .i64 0, .int .i64 0, .int .i64 0, .string ⟨#[]⟩] 30) = x := ⟨_, rfl⟩
      rw [hW5] at T5 S5 hS
      rw [hAe, hW5] at R5
      rw [hAe] at hA hSA
      rw [hAe, hW5]
      clear Bd hAe hW5 T4 S4
      refine wpAnyH_ready (rs := [3]) (by kernel_rfl) (by simp) ?_
      refine AllReadyH.cons rfl (fun K hK => ?_) (AllReadyH.nil)
      go_simp
      go_at_call 62
      refine (unhide CC W5).mono ?_
      rintro e W6 ⟨rfl, Bd⟩
      have T6 := hide ((unhide T5).later Bd)
      have S6 := hide ((unhide S5).later Bd (unhide S5).1)
      have R6 := hide ((unhide R5).later Bd (unhide R5).1)
      refine Shut.out hK _ _ ⟨unhide T6, unhide S6⟩ (fun hS => ?_)
      clear hK K
      clear Bd T5 S5 R5
      refine wpAnyH_take (i := 6) (v := .agg #[.string nm, .int .i64 yy, .int .i64 mo, .int .i64 dd, .int .i64 hh', .int .i64 mi, .int .i64 ss, .string UT]) rfl (by kernel_rfl) (by kernel_rfl) (by kernel_rfl) (fun _ _ _ h => h) (Or.inl ⟨by rfl, fun W hSw => by go_simp⟩) hS ?_
      refine wpAnyH_ready (rs := [8]) (by kernel_rfl) (by simp) ?_
      refine AllReadyH.cons rfl (fun K hK => ?_) (AllReadyH.nil)
      have a0 := (unhide R6).cell 0 _ rfl
      have f0 := (unhide R6).free 0 (by decide)
      have a1 := (unhide R6).cell 1 _ rfl
      have f1 := (unhide R6).free 1 (by decide)
      have a2 := (unhide R6).cell 2 _ rfl
      have f2 := (unhide R6).free 2 (by decide)
      have a3 := (unhide R6).cell 3 _ rfl
      have f3 := (unhide R6).free 3 (by decide)
      have a4 := (unhide R6).cell 4 _ rfl
      have f4 := (unhide R6).free 4 (by decide)
      have a5 := (unhide R6).cell 5 _ rfl
      have f5 := (unhide R6).free 5 (by decide)
      have a6 := (unhide R6).cell 6 _ rfl
      have f6 := (unhide R6).free 6 (by decide)
      have a7 := (unhide R6).cell 7 _ rfl
      have f7 := (unhide R6).free 7 (by decide)
      go_simp
      have TX := hide (((((((((unhide T6).set hA 0 (.string nm)).set hA 1 (.int .i64 yy)).set hA 2 (.int .i64 mo)).set hA 3 (.int .i64 dd)).set hA 4 (.int .i64 hh')).set hA 5 (.int .i64 mi)).set hA 6 (.int .i64 ss)).set hA 7 (.string UT))
      have RX := hide (((((((((unhide R6).set 0 (.string nm)).set 1 (.int .i64 yy)).set 2 (.int .i64 mo)).set 3 (.int .i64 dd)).set 4 (.int .i64 hh')).set 5 (.int .i64 mi)).set 6 (.int .i64 ss)).set 7 (.string UT))
      have SX := hide (Blk.set_other (o := 7) (Blk.set_other (o := 6) (Blk.set_other (o := 5) (Blk.set_other (o := 4) (Blk.set_other (o := 3) (Blk.set_other (o := 2) (Blk.set_other (o := 1) (Blk.set_other (o := 0) (unhide S6) (.string nm) hSA) (.int .i64 yy) hSA) (.int .i64 mo) hSA) (.int .i64 dd) hSA) (.int .i64 hh') hSA) (.int .i64 mi) hSA) (.int .i64 ss) hSA) (.string UT) hSA)
      clear a0 f0 a1 f1 a2 f2 a3 f3 a4 f4 a5 f5 a6 f6 a7 f7
      refine Shut.out hK _ _ ⟨unhide TX, unhide SX⟩ (fun hS => ?_)
      clear hK K
      refine wpAnyH_done (by kernel_rfl) ?_ _
      go_wp2_with fail
      go_meet
      case rel => exact ⟨A, rfl, hA, unhide TX, unhide RX⟩
  case rest =>
    obtain ⟨A, rfl, hA, TB', RB'⟩ := hcut
    have TB := hide TB'
    have RB := hide RB'
    clear TB' RB' T3 S3
    go_wp2_with fail
    cases OK
    · have HV : Hid (Ending.returned (.tuple #[.agg #[.string ⟨#[]⟩, .int .i64 0, .int .i64 0, .int .i64 0, .int .i64 0, .int .i64 0, .int .i64 0, .string ⟨#[]⟩], .bool false]) = RES) := by show _ = _; rw [← unhide HRES]; simp []; rfl
      have k4 := cell_regrown ((unhide TB).2.1.cell 4 _ rfl)
      have k2 := cell_regrown ((unhide TB).2.1.cell 2 _ rfl)
      have m0 := cell_regrown ((unhide RB).cell 0 _ rfl)
      have m1 := cell_regrown ((unhide RB).cell 1 _ rfl)
      have m2 := cell_regrown ((unhide RB).cell 2 _ rfl)
      have m3 := cell_regrown ((unhide RB).cell 3 _ rfl)
      have m4 := cell_regrown ((unhide RB).cell 4 _ rfl)
      have m5 := cell_regrown ((unhide RB).cell 5 _ rfl)
      have m6 := cell_regrown ((unhide RB).cell 6 _ rfl)
      have m7 := cell_regrown ((unhide RB).cell 7 _ rfl)
      have cE := fun d os => Calls.regrown_of (w := wc) (d := d) (os := os) (unhide CE _ (bnext (unhide TB).1 (below_regrown wc d os)))
      have cC := fun d os => Calls.regrown_of (w := wc) (d := d) (os := os) (unhide CCr _)
      refine wp_region_quiet_below hmix (by kernel_rfl) ?_
      repeat (quiet_step (first | exact cE _ _ | exact cC _ _))
      refine wpQuiet_nil ?_
      intro zw hw'
      obtain ⟨⟨dq, osq⟩, hw2⟩ := hw'
      have HZ := below_regrown wc dq osq
      rw [← hw2] at HZ
      have T9 := hide ((unhide TB).later HZ)
      have R9 := hide ((unhide RB).later HZ (unhide RB).1)
      clear hw2 HZ k4 k2 cE cC TB RB m0 m1 m2 m3 m4 m5 m6 m7
      have b0 := (unhide T9).2.2.cell 0 _ rfl
      have g0 := (unhide T9).2.2.free 0 (by decide)
      have b1 := (unhide T9).2.2.cell 1 _ rfl
      have g1 := (unhide T9).2.2.free 1 (by decide)
      have b2 := (unhide T9).2.2.cell 2 _ rfl
      have g2 := (unhide T9).2.2.free 2 (by decide)
      have b3 := (unhide T9).2.2.cell 3 _ rfl
      have g3 := (unhide T9).2.2.free 3 (by decide)
      have b4 := (unhide T9).2.2.cell 4 _ rfl
      have g4 := (unhide T9).2.2.free 4 (by decide)
      have b5 := (unhide T9).2.2.cell 5 _ rfl
      have g5 := (unhide T9).2.2.free 5 (by decide)
      have b6 := (unhide T9).2.2.cell 6 _ rfl
      have g6 := (unhide T9).2.2.free 6 (by decide)
      have b7 := (unhide T9).2.2.cell 7 _ rfl
      have g7 := (unhide T9).2.2.free 7 (by decide)
      have TZ := hide (below_set (o := 7) (below_set (o := 6) (below_set (o := 5) (below_set (o := 4) (below_set (o := 3) (below_set (o := 2) (below_set (o := 1) (below_set (o := 0) (unhide T9).1 (Nat.le_succ _) (.string ⟨#[]⟩)) (Nat.le_succ _) (.int .i64 0)) (Nat.le_succ _) (.int .i64 0)) (Nat.le_succ _) (.int .i64 0)) (Nat.le_succ _) (.int .i64 0)) (Nat.le_succ _) (.int .i64 0)) (Nat.le_succ _) (.int .i64 0)) (Nat.le_succ _) (.string ⟨#[]⟩))
      have ZZ := hide (((((((((unhide T9).2.2.set 0 (.string ⟨#[]⟩)).set 1 (.int .i64 0)).set 2 (.int .i64 0)).set 3 (.int .i64 0)).set 4 (.int .i64 0)).set 5 (.int .i64 0)).set 6 (.int .i64 0)).set 7 (.string ⟨#[]⟩))
      go_wp2
      have z0 := (unhide ZZ).cell 0 _ rfl
      have z1 := (unhide ZZ).cell 1 _ rfl
      have z2 := (unhide ZZ).cell 2 _ rfl
      have z3 := (unhide ZZ).cell 3 _ rfl
      have z4 := (unhide ZZ).cell 4 _ rfl
      have z5 := (unhide ZZ).cell 5 _ rfl
      have z6 := (unhide ZZ).cell 6 _ rfl
      have z7 := (unhide ZZ).cell 7 _ rfl
      refine bodyPost_ret (v := .tuple #[.agg #[.string ⟨#[]⟩, .int .i64 0, .int .i64 0, .int .i64 0, .int .i64 0, .int .i64 0, .int .i64 0, .string ⟨#[]⟩], .bool false]) (by simp [results, Tryz.results31, go_sem, z0, z1, z2, z3, z4, z5, z6, z7]) rfl ⟨unhide HV, unhide TZ⟩
    · skip
      cases GO
      · have HV : Hid (Ending.returned (.tuple #[.agg #[.string ⟨#[]⟩, .int .i64 0, .int .i64 0, .int .i64 0, .int .i64 0, .int .i64 0, .int .i64 0, .string ⟨#[]⟩], .bool false]) = RES) := by show _ = _; rw [← unhide HRES]; simp []; rfl
        have k4 := cell_regrown ((unhide TB).2.1.cell 4 _ rfl)
        have k2 := cell_regrown ((unhide TB).2.1.cell 2 _ rfl)
        have m0 := cell_regrown ((unhide RB).cell 0 _ rfl)
        have m1 := cell_regrown ((unhide RB).cell 1 _ rfl)
        have m2 := cell_regrown ((unhide RB).cell 2 _ rfl)
        have m3 := cell_regrown ((unhide RB).cell 3 _ rfl)
        have m4 := cell_regrown ((unhide RB).cell 4 _ rfl)
        have m5 := cell_regrown ((unhide RB).cell 5 _ rfl)
        have m6 := cell_regrown ((unhide RB).cell 6 _ rfl)
        have m7 := cell_regrown ((unhide RB).cell 7 _ rfl)
        have cE := fun d os => Calls.regrown_of (w := wc) (d := d) (os := os) (unhide CE _ (bnext (unhide TB).1 (below_regrown wc d os)))
        have cC := fun d os => Calls.regrown_of (w := wc) (d := d) (os := os) (unhide CCr _)
        refine wp_region_quiet_below hmix (by kernel_rfl) ?_
        repeat (quiet_step (first | exact cE _ _ | exact cC _ _))
        refine wpQuiet_nil ?_
        intro zw hw'
        obtain ⟨⟨dq, osq⟩, hw2⟩ := hw'
        have HZ := below_regrown wc dq osq
        rw [← hw2] at HZ
        have T9 := hide ((unhide TB).later HZ)
        have R9 := hide ((unhide RB).later HZ (unhide RB).1)
        clear hw2 HZ k4 k2 cE cC TB RB m0 m1 m2 m3 m4 m5 m6 m7
        have b0 := (unhide T9).2.2.cell 0 _ rfl
        have g0 := (unhide T9).2.2.free 0 (by decide)
        have b1 := (unhide T9).2.2.cell 1 _ rfl
        have g1 := (unhide T9).2.2.free 1 (by decide)
        have b2 := (unhide T9).2.2.cell 2 _ rfl
        have g2 := (unhide T9).2.2.free 2 (by decide)
        have b3 := (unhide T9).2.2.cell 3 _ rfl
        have g3 := (unhide T9).2.2.free 3 (by decide)
        have b4 := (unhide T9).2.2.cell 4 _ rfl
        have g4 := (unhide T9).2.2.free 4 (by decide)
        have b5 := (unhide T9).2.2.cell 5 _ rfl
        have g5 := (unhide T9).2.2.free 5 (by decide)
        have b6 := (unhide T9).2.2.cell 6 _ rfl
        have g6 := (unhide T9).2.2.free 6 (by decide)
        have b7 := (unhide T9).2.2.cell 7 _ rfl
        have g7 := (unhide T9).2.2.free 7 (by decide)
        have TZ := hide (below_set (o := 7) (below_set (o := 6) (below_set (o := 5) (below_set (o := 4) (below_set (o := 3) (below_set (o := 2) (below_set (o := 1) (below_set (o := 0) (unhide T9).1 (Nat.le_succ _) (.string ⟨#[]⟩)) (Nat.le_succ _) (.int .i64 0)) (Nat.le_succ _) (.int .i64 0)) (Nat.le_succ _) (.int .i64 0)) (Nat.le_succ _) (.int .i64 0)) (Nat.le_succ _) (.int .i64 0)) (Nat.le_succ _) (.int .i64 0)) (Nat.le_succ _) (.string ⟨#[]⟩))
        have ZZ := hide (((((((((unhide T9).2.2.set 0 (.string ⟨#[]⟩)).set 1 (.int .i64 0)).set 2 (.int .i64 0)).set 3 (.int .i64 0)).set 4 (.int .i64 0)).set 5 (.int .i64 0)).set 6 (.int .i64 0)).set 7 (.string ⟨#[]⟩))
        go_wp2
        have z0 := (unhide ZZ).cell 0 _ rfl
        have z1 := (unhide ZZ).cell 1 _ rfl
        have z2 := (unhide ZZ).cell 2 _ rfl
        have z3 := (unhide ZZ).cell 3 _ rfl
        have z4 := (unhide ZZ).cell 4 _ rfl
        have z5 := (unhide ZZ).cell 5 _ rfl
        have z6 := (unhide ZZ).cell 6 _ rfl
        have z7 := (unhide ZZ).cell 7 _ rfl
        refine bodyPost_ret (v := .tuple #[.agg #[.string ⟨#[]⟩, .int .i64 0, .int .i64 0, .int .i64 0, .int .i64 0, .int .i64 0, .int .i64 0, .string ⟨#[]⟩], .bool false]) (by simp [results, Tryz.results31, go_sem, z0, z1, z2, z3, z4, z5, z6, z7]) rfl ⟨unhide HV, unhide TZ⟩
      · skip
        cases EB
        · have HV : Hid (Ending.returned (.tuple #[.agg #[.string ⟨#[]⟩, .int .i64 0, .int .i64 0, .int .i64 0, .int .i64 0, .int .i64 0, .int .i64 0, .string ⟨#[]⟩], .bool false]) = RES) := by show _ = _; rw [← unhide HRES]; simp []; rfl
          have k4 := cell_regrown ((unhide TB).2.1.cell 4 _ rfl)
          have k2 := cell_regrown ((unhide TB).2.1.cell 2 _ rfl)
          have m0 := cell_regrown ((unhide RB).cell 0 _ rfl)
          have m1 := cell_regrown ((unhide RB).cell 1 _ rfl)
          have m2 := cell_regrown ((unhide RB).cell 2 _ rfl)
          have m3 := cell_regrown ((unhide RB).cell 3 _ rfl)
          have m4 := cell_regrown ((unhide RB).cell 4 _ rfl)
          have m5 := cell_regrown ((unhide RB).cell 5 _ rfl)
          have m6 := cell_regrown ((unhide RB).cell 6 _ rfl)
          have m7 := cell_regrown ((unhide RB).cell 7 _ rfl)
          have cE := fun d os => Calls.regrown_of (w := wc) (d := d) (os := os) (unhide CE _ (bnext (unhide TB).1 (below_regrown wc d os)))
          have cC := fun d os => Calls.regrown_of (w := wc) (d := d) (os := os) (unhide CCr _)
          refine wp_region_quiet_below hmix (by kernel_rfl) ?_
          repeat (quiet_step (first | exact cE _ _ | exact cC _ _))
          refine wpQuiet_nil ?_
          intro zw hw'
          obtain ⟨⟨dq, osq⟩, hw2⟩ := hw'
          have HZ := below_regrown wc dq osq
          rw [← hw2] at HZ
          have T9 := hide ((unhide TB).later HZ)
          have R9 := hide ((unhide RB).later HZ (unhide RB).1)
          clear hw2 HZ k4 k2 cE cC TB RB m0 m1 m2 m3 m4 m5 m6 m7
          have b0 := (unhide T9).2.2.cell 0 _ rfl
          have g0 := (unhide T9).2.2.free 0 (by decide)
          have b1 := (unhide T9).2.2.cell 1 _ rfl
          have g1 := (unhide T9).2.2.free 1 (by decide)
          have b2 := (unhide T9).2.2.cell 2 _ rfl
          have g2 := (unhide T9).2.2.free 2 (by decide)
          have b3 := (unhide T9).2.2.cell 3 _ rfl
          have g3 := (unhide T9).2.2.free 3 (by decide)
          have b4 := (unhide T9).2.2.cell 4 _ rfl
          have g4 := (unhide T9).2.2.free 4 (by decide)
          have b5 := (unhide T9).2.2.cell 5 _ rfl
          have g5 := (unhide T9).2.2.free 5 (by decide)
          have b6 := (unhide T9).2.2.cell 6 _ rfl
          have g6 := (unhide T9).2.2.free 6 (by decide)
          have b7 := (unhide T9).2.2.cell 7 _ rfl
          have g7 := (unhide T9).2.2.free 7 (by decide)
          have TZ := hide (below_set (o := 7) (below_set (o := 6) (below_set (o := 5) (below_set (o := 4) (below_set (o := 3) (below_set (o := 2) (below_set (o := 1) (below_set (o := 0) (unhide T9).1 (Nat.le_succ _) (.string ⟨#[]⟩)) (Nat.le_succ _) (.int .i64 0)) (Nat.le_succ _) (.int .i64 0)) (Nat.le_succ _) (.int .i64 0)) (Nat.le_succ _) (.int .i64 0)) (Nat.le_succ _) (.int .i64 0)) (Nat.le_succ _) (.int .i64 0)) (Nat.le_succ _) (.string ⟨#[]⟩))
          have ZZ := hide (((((((((unhide T9).2.2.set 0 (.string ⟨#[]⟩)).set 1 (.int .i64 0)).set 2 (.int .i64 0)).set 3 (.int .i64 0)).set 4 (.int .i64 0)).set 5 (.int .i64 0)).set 6 (.int .i64 0)).set 7 (.string ⟨#[]⟩))
          go_wp2
          have z0 := (unhide ZZ).cell 0 _ rfl
          have z1 := (unhide ZZ).cell 1 _ rfl
          have z2 := (unhide ZZ).cell 2 _ rfl
          have z3 := (unhide ZZ).cell 3 _ rfl
          have z4 := (unhide ZZ).cell 4 _ rfl
          have z5 := (unhide ZZ).cell 5 _ rfl
          have z6 := (unhide ZZ).cell 6 _ rfl
          have z7 := (unhide ZZ).cell 7 _ rfl
          refine bodyPost_ret (v := .tuple #[.agg #[.string ⟨#[]⟩, .int .i64 0, .int .i64 0, .int .i64 0, .int .i64 0, .int .i64 0, .int .i64 0, .string ⟨#[]⟩], .bool false]) (by simp [results, Tryz.results31, go_sem, z0, z1, z2, z3, z4, z5, z6, z7]) rfl ⟨unhide HV, unhide TZ⟩
        · skip
          by_cases k1 : UT.size = lg
          · have k1b : ((UT.size : Int) == (lg : Int)) = true := by simp [k1]
            have k1c : ((UT.size : Int) != (lg : Int)) = false := by simp [k1]
            by_cases k2 : cu = cr
            · have k2b : ((cu : Int) == (cr : Int)) = true := by simp [k2]
              have k2c : ((cu : Int) != (cr : Int)) = false := by simp [k2]
              have HV : Hid (Ending.returned (.tuple #[.agg #[.string nm, .int .i64 yy, .int .i64 mo, .int .i64 dd, .int .i64 hh', .int .i64 mi, .int .i64 ss, .string UT], .bool true]) = RES) := by show _ = _; rw [← unhide HRES]; simp [k1, k2]
              have k4 := cell_regrown ((unhide TB).2.1.cell 4 _ rfl)
              have k2 := cell_regrown ((unhide TB).2.1.cell 2 _ rfl)
              have m0 := cell_regrown ((unhide RB).cell 0 _ rfl)
              have m1 := cell_regrown ((unhide RB).cell 1 _ rfl)
              have m2 := cell_regrown ((unhide RB).cell 2 _ rfl)
              have m3 := cell_regrown ((unhide RB).cell 3 _ rfl)
              have m4 := cell_regrown ((unhide RB).cell 4 _ rfl)
              have m5 := cell_regrown ((unhide RB).cell 5 _ rfl)
              have m6 := cell_regrown ((unhide RB).cell 6 _ rfl)
              have m7 := cell_regrown ((unhide RB).cell 7 _ rfl)
              have cE := fun d os => Calls.regrown_of (w := wc) (d := d) (os := os) (unhide CE _ (bnext (unhide TB).1 (below_regrown wc d os)))
              have cC := fun d os => Calls.regrown_of (w := wc) (d := d) (os := os) (unhide CCr _)
              refine wp_region_quiet_below hmix (by kernel_rfl) ?_
              repeat (quiet_step (first | exact cE _ _ | exact cC _ _))
              refine wpQuiet_nil ?_
              intro zw hw'
              obtain ⟨⟨dq, osq⟩, hw2⟩ := hw'
              have HZ := below_regrown wc dq osq
              rw [← hw2] at HZ
              have T9 := hide ((unhide TB).later HZ)
              have R9 := hide ((unhide RB).later HZ (unhide RB).1)
              clear hw2 HZ k4 k2 cE cC TB RB m0 m1 m2 m3 m4 m5 m6 m7
              have r0 := (unhide R9).cell 0 _ rfl
              have r1 := (unhide R9).cell 1 _ rfl
              have r2 := (unhide R9).cell 2 _ rfl
              have r3 := (unhide R9).cell 3 _ rfl
              have r4 := (unhide R9).cell 4 _ rfl
              have r5 := (unhide R9).cell 5 _ rfl
              have r6 := (unhide R9).cell 6 _ rfl
              have r7 := (unhide R9).cell 7 _ rfl
              have b0 := (unhide T9).2.2.cell 0 _ rfl
              have g0 := (unhide T9).2.2.free 0 (by decide)
              have b1 := (unhide T9).2.2.cell 1 _ rfl
              have g1 := (unhide T9).2.2.free 1 (by decide)
              have b2 := (unhide T9).2.2.cell 2 _ rfl
              have g2 := (unhide T9).2.2.free 2 (by decide)
              have b3 := (unhide T9).2.2.cell 3 _ rfl
              have g3 := (unhide T9).2.2.free 3 (by decide)
              have b4 := (unhide T9).2.2.cell 4 _ rfl
              have g4 := (unhide T9).2.2.free 4 (by decide)
              have b5 := (unhide T9).2.2.cell 5 _ rfl
              have g5 := (unhide T9).2.2.free 5 (by decide)
              have b6 := (unhide T9).2.2.cell 6 _ rfl
              have g6 := (unhide T9).2.2.free 6 (by decide)
              have b7 := (unhide T9).2.2.cell 7 _ rfl
              have g7 := (unhide T9).2.2.free 7 (by decide)
              have TZ := hide (below_set (o := 7) (below_set (o := 6) (below_set (o := 5) (below_set (o := 4) (below_set (o := 3) (below_set (o := 2) (below_set (o := 1) (below_set (o := 0) (unhide T9).1 (Nat.le_succ _) (.string nm)) (Nat.le_succ _) (.int .i64 yy)) (Nat.le_succ _) (.int .i64 mo)) (Nat.le_succ _) (.int .i64 dd)) (Nat.le_succ _) (.int .i64 hh')) (Nat.le_succ _) (.int .i64 mi)) (Nat.le_succ _) (.int .i64 ss)) (Nat.le_succ _) (.string UT))
              have ZZ := hide (((((((((unhide T9).2.2.set 0 (.string nm)).set 1 (.int .i64 yy)).set 2 (.int .i64 mo)).set 3 (.int .i64 dd)).set 4 (.int .i64 hh')).set 5 (.int .i64 mi)).set 6 (.int .i64 ss)).set 7 (.string UT))
              go_wp2
              have z0 := (unhide ZZ).cell 0 _ rfl
              have z1 := (unhide ZZ).cell 1 _ rfl
              have z2 := (unhide ZZ).cell 2 _ rfl
              have z3 := (unhide ZZ).cell 3 _ rfl
              have z4 := (unhide ZZ).cell 4 _ rfl
              have z5 := (unhide ZZ).cell 5 _ rfl
              have z6 := (unhide ZZ).cell 6 _ rfl
              have z7 := (unhide ZZ).cell 7 _ rfl
              refine bodyPost_ret (v := .tuple #[.agg #[.string nm, .int .i64 yy, .int .i64 mo, .int .i64 dd, .int .i64 hh', .int .i64 mi, .int .i64 ss, .string UT], .bool true]) (by simp [results, Tryz.results31, go_sem, z0, z1, z2, z3, z4, z5, z6, z7]) rfl ⟨unhide HV, unhide TZ⟩
            · have k2b : ((cu : Int) == (cr : Int)) = false := by simp; omega
              have k2c : ((cu : Int) != (cr : Int)) = true := by simp; omega
              have HV : Hid (Ending.returned (.tuple #[.agg #[.string ⟨#[]⟩, .int .i64 0, .int .i64 0, .int .i64 0, .int .i64 0, .int .i64 0, .int .i64 0, .string ⟨#[]⟩], .bool false]) = RES) := by show _ = _; rw [← unhide HRES]; simp [k2]; rfl
              have k4 := cell_regrown ((unhide TB).2.1.cell 4 _ rfl)
              have k2 := cell_regrown ((unhide TB).2.1.cell 2 _ rfl)
              have m0 := cell_regrown ((unhide RB).cell 0 _ rfl)
              have m1 := cell_regrown ((unhide RB).cell 1 _ rfl)
              have m2 := cell_regrown ((unhide RB).cell 2 _ rfl)
              have m3 := cell_regrown ((unhide RB).cell 3 _ rfl)
              have m4 := cell_regrown ((unhide RB).cell 4 _ rfl)
              have m5 := cell_regrown ((unhide RB).cell 5 _ rfl)
              have m6 := cell_regrown ((unhide RB).cell 6 _ rfl)
              have m7 := cell_regrown ((unhide RB).cell 7 _ rfl)
              have cE := fun d os => Calls.regrown_of (w := wc) (d := d) (os := os) (unhide CE _ (bnext (unhide TB).1 (below_regrown wc d os)))
              have cC := fun d os => Calls.regrown_of (w := wc) (d := d) (os := os) (unhide CCr _)
              refine wp_region_quiet_below hmix (by kernel_rfl) ?_
              repeat (quiet_step (first | exact cE _ _ | exact cC _ _))
              refine wpQuiet_nil ?_
              intro zw hw'
              obtain ⟨⟨dq, osq⟩, hw2⟩ := hw'
              have HZ := below_regrown wc dq osq
              rw [← hw2] at HZ
              have T9 := hide ((unhide TB).later HZ)
              have R9 := hide ((unhide RB).later HZ (unhide RB).1)
              clear hw2 HZ k4 k2 cE cC TB RB m0 m1 m2 m3 m4 m5 m6 m7
              have b0 := (unhide T9).2.2.cell 0 _ rfl
              have g0 := (unhide T9).2.2.free 0 (by decide)
              have b1 := (unhide T9).2.2.cell 1 _ rfl
              have g1 := (unhide T9).2.2.free 1 (by decide)
              have b2 := (unhide T9).2.2.cell 2 _ rfl
              have g2 := (unhide T9).2.2.free 2 (by decide)
              have b3 := (unhide T9).2.2.cell 3 _ rfl
              have g3 := (unhide T9).2.2.free 3 (by decide)
              have b4 := (unhide T9).2.2.cell 4 _ rfl
              have g4 := (unhide T9).2.2.free 4 (by decide)
              have b5 := (unhide T9).2.2.cell 5 _ rfl
              have g5 := (unhide T9).2.2.free 5 (by decide)
              have b6 := (unhide T9).2.2.cell 6 _ rfl
              have g6 := (unhide T9).2.2.free 6 (by decide)
              have b7 := (unhide T9).2.2.cell 7 _ rfl
              have g7 := (unhide T9).2.2.free 7 (by decide)
              have TZ := hide (below_set (o := 7) (below_set (o := 6) (below_set (o := 5) (below_set (o := 4) (below_set (o := 3) (below_set (o := 2) (below_set (o := 1) (below_set (o := 0) (unhide T9).1 (Nat.le_succ _) (.string ⟨#[]⟩)) (Nat.le_succ _) (.int .i64 0)) (Nat.le_succ _) (.int .i64 0)) (Nat.le_succ _) (.int .i64 0)) (Nat.le_succ _) (.int .i64 0)) (Nat.le_succ _) (.int .i64 0)) (Nat.le_succ _) (.int .i64 0)) (Nat.le_succ _) (.string ⟨#[]⟩))
              have ZZ := hide (((((((((unhide T9).2.2.set 0 (.string ⟨#[]⟩)).set 1 (.int .i64 0)).set 2 (.int .i64 0)).set 3 (.int .i64 0)).set 4 (.int .i64 0)).set 5 (.int .i64 0)).set 6 (.int .i64 0)).set 7 (.string ⟨#[]⟩))
              go_wp2
              have z0 := (unhide ZZ).cell 0 _ rfl
              have z1 := (unhide ZZ).cell 1 _ rfl
              have z2 := (unhide ZZ).cell 2 _ rfl
              have z3 := (unhide ZZ).cell 3 _ rfl
              have z4 := (unhide ZZ).cell 4 _ rfl
              have z5 := (unhide ZZ).cell 5 _ rfl
              have z6 := (unhide ZZ).cell 6 _ rfl
              have z7 := (unhide ZZ).cell 7 _ rfl
              refine bodyPost_ret (v := .tuple #[.agg #[.string ⟨#[]⟩, .int .i64 0, .int .i64 0, .int .i64 0, .int .i64 0, .int .i64 0, .int .i64 0, .string ⟨#[]⟩], .bool false]) (by simp [results, Tryz.results31, go_sem, z0, z1, z2, z3, z4, z5, z6, z7]) rfl ⟨unhide HV, unhide TZ⟩
          · have k1b : ((UT.size : Int) == (lg : Int)) = false := by simp; omega
            have k1c : ((UT.size : Int) != (lg : Int)) = true := by simp; omega
            have HV : Hid (Ending.returned (.tuple #[.agg #[.string ⟨#[]⟩, .int .i64 0, .int .i64 0, .int .i64 0, .int .i64 0, .int .i64 0, .int .i64 0, .string ⟨#[]⟩], .bool false]) = RES) := by show _ = _; rw [← unhide HRES]; simp [k1]; rfl
            have k4 := cell_regrown ((unhide TB).2.1.cell 4 _ rfl)
            have k2 := cell_regrown ((unhide TB).2.1.cell 2 _ rfl)
            have m0 := cell_regrown ((unhide RB).cell 0 _ rfl)
            have m1 := cell_regrown ((unhide RB).cell 1 _ rfl)
            have m2 := cell_regrown ((unhide RB).cell 2 _ rfl)
            have m3 := cell_regrown ((unhide RB).cell 3 _ rfl)
            have m4 := cell_regrown ((unhide RB).cell 4 _ rfl)
            have m5 := cell_regrown ((unhide RB).cell 5 _ rfl)
            have m6 := cell_regrown ((unhide RB).cell 6 _ rfl)
            have m7 := cell_regrown ((unhide RB).cell 7 _ rfl)
            have cE := fun d os => Calls.regrown_of (w := wc) (d := d) (os := os) (unhide CE _ (bnext (unhide TB).1 (below_regrown wc d os)))
            have cC := fun d os => Calls.regrown_of (w := wc) (d := d) (os := os) (unhide CCr _)
            refine wp_region_quiet_below hmix (by kernel_rfl) ?_
            repeat (quiet_step (first | exact cE _ _ | exact cC _ _))
            refine wpQuiet_nil ?_
            intro zw hw'
            obtain ⟨⟨dq, osq⟩, hw2⟩ := hw'
            have HZ := below_regrown wc dq osq
            rw [← hw2] at HZ
            have T9 := hide ((unhide TB).later HZ)
            have R9 := hide ((unhide RB).later HZ (unhide RB).1)
            clear hw2 HZ k4 k2 cE cC TB RB m0 m1 m2 m3 m4 m5 m6 m7
            have b0 := (unhide T9).2.2.cell 0 _ rfl
            have g0 := (unhide T9).2.2.free 0 (by decide)
            have b1 := (unhide T9).2.2.cell 1 _ rfl
            have g1 := (unhide T9).2.2.free 1 (by decide)
            have b2 := (unhide T9).2.2.cell 2 _ rfl
            have g2 := (unhide T9).2.2.free 2 (by decide)
            have b3 := (unhide T9).2.2.cell 3 _ rfl
            have g3 := (unhide T9).2.2.free 3 (by decide)
            have b4 := (unhide T9).2.2.cell 4 _ rfl
            have g4 := (unhide T9).2.2.free 4 (by decide)
            have b5 := (unhide T9).2.2.cell 5 _ rfl
            have g5 := (unhide T9).2.2.free 5 (by decide)
            have b6 := (unhide T9).2.2.cell 6 _ rfl
            have g6 := (unhide T9).2.2.free 6 (by decide)
            have b7 := (unhide T9).2.2.cell 7 _ rfl
            have g7 := (unhide T9).2.2.free 7 (by decide)
            have TZ := hide (below_set (o := 7) (below_set (o := 6) (below_set (o := 5) (below_set (o := 4) (below_set (o := 3) (below_set (o := 2) (below_set (o := 1) (below_set (o := 0) (unhide T9).1 (Nat.le_succ _) (.string ⟨#[]⟩)) (Nat.le_succ _) (.int .i64 0)) (Nat.le_succ _) (.int .i64 0)) (Nat.le_succ _) (.int .i64 0)) (Nat.le_succ _) (.int .i64 0)) (Nat.le_succ _) (.int .i64 0)) (Nat.le_succ _) (.int .i64 0)) (Nat.le_succ _) (.string ⟨#[]⟩))
            have ZZ := hide (((((((((unhide T9).2.2.set 0 (.string ⟨#[]⟩)).set 1 (.int .i64 0)).set 2 (.int .i64 0)).set 3 (.int .i64 0)).set 4 (.int .i64 0)).set 5 (.int .i64 0)).set 6 (.int .i64 0)).set 7 (.string ⟨#[]⟩))
            go_wp2
            have z0 := (unhide ZZ).cell 0 _ rfl
            have z1 := (unhide ZZ).cell 1 _ rfl
            have z2 := (unhide ZZ).cell 2 _ rfl
            have z3 := (unhide ZZ).cell 3 _ rfl
            have z4 := (unhide ZZ).cell 4 _ rfl
            have z5 := (unhide ZZ).cell 5 _ rfl
            have z6 := (unhide ZZ).cell 6 _ rfl
            have z7 := (unhide ZZ).cell 7 _ rfl
            refine bodyPost_ret (v := .tuple #[.agg #[.string ⟨#[]⟩, .int .i64 0, .int .i64 0, .int .i64 0, .int .i64 0, .int .i64 0, .int .i64 0, .string ⟨#[]⟩], .bool false]) (by simp [results, Tryz.results31, go_sem, z0, z1, z2, z3, z4, z5, z6, z7]) rfl ⟨unhide HV, unhide TZ⟩
end Go.Proofs.YtbacpebljannfaaGreatDoor
namespace Go.Proofs.YtbacpebljannfaaGreatDoor
open Go.RowKit Corb
set_option maxRecDepth 100000
theorem en_is (s : ByteArray) : enB (wd s.data.toList 8 2) (wd s.data.toList 10 4) (wd s.data.toList 14 4) (wd s.data.toList 22 4) (nmB s) (bdB s) = ((txO (wd s.data.toList 8 2) (bdB s) && (decide (wd s.data.toList 14 4 = crcMore 0 (txT (wd s.data.toList 8 2) (bdB s)).data.toList) && decide (wd s.data.toList 22 4 = (txT (wd s.data.toList 8 2) (bdB s)).size))) && entG s (txT (wd s.data.toList 8 2) (bdB s))) ∧ (enB (wd s.data.toList 8 2) (wd s.data.toList 10 4) (wd s.data.toList 14 4) (wd s.data.toList 22 4) (nmB s) (bdB s) = true → enE (wd s.data.toList 10 4) (nmB s) (uxT (wd s.data.toList 8 2) (bdB s)) = locE s (txT (wd s.data.toList 8 2) (bdB s))) := by
  cases ho : txO (wd s.data.toList 8 2) (bdB s)
  · simp [enB, ho]
  · unfold enB enE locE entG
    rw [ux_yes ho, ho]
    have hg := gOk_nn (n := (wd s.data.toList 10 4 : Nat)) (by omega)
    cases hk : gOk ((wd s.data.toList 10 4 : Nat) : Int)
    · rw [hk] at hg
      refine ⟨?_, by simp⟩
      unfold entB
      rw [← hg]; simp
    · simp only [zz, if_true]
      refine ⟨?_, fun _ => trivial⟩
      rw [Bool.eq_iff_iff]
      simp only [Bool.and_eq_true, decide_eq_true_eq, Bool.true_and]
      constructor
      · rintro ⟨a, b, c⟩; exact ⟨⟨c.symm, b.symm⟩, a⟩
      · rintro ⟨⟨a, b⟩, c⟩; exact ⟨c, b.symm, a.symm⟩
theorem en_small {how st cr lg : Nat} {nm b : ByteArray} (h : enB how st cr lg nm b = true) : b.size ≤ 700 := by
  simp only [enB, Bool.and_eq_true] at h
  obtain ⟨h1, _, h3, _⟩ := h
  unfold txO unpB at h1
  by_cases h0 : how = 0
  · subst h0
    have e : uxT 0 b = b := by simp [uxT, txT]
    rw [e] at h3
    have := (ent_facts h3).2.1
    omega
  · rw [if_neg h0] at h1
    by_cases h8 : how = 8
    · rw [if_pos h8] at h1
      unfold flateG at h1
      by_cases hz : b.size ≤ 700
      · exact hz
      · rw [if_neg hz] at h1; cases h1
    · rw [if_neg h8] at h1; cases h1
theorem loc_en {s : ByteArray} (h : hdB s = true) : locV s = if enB (wd s.data.toList 8 2) (wd s.data.toList 10 4) (wd s.data.toList 14 4) (wd s.data.toList 22 4) (nmB s) (bdB s) = true then .tuple #[enE (wd s.data.toList 10 4) (nmB s) (uxT (wd s.data.toList 8 2) (bdB s)), .int .i64 ((30 + wd s.data.toList 26 2 + wd s.data.toList 18 4 : Nat) : Int), .bool true] else .tuple #[noE, .int .i64 0, .bool false] := by
  obtain ⟨e1, e2⟩ := en_is s
  rw [loc_is h, ← e1]
  by_cases hb : enB (wd s.data.toList 8 2) (wd s.data.toList 10 4) (wd s.data.toList 14 4) (wd s.data.toList 22 4) (nmB s) (bdB s) = true
  · rw [if_pos hb, if_pos hb, e2 hb]
  · rw [if_neg hb, if_neg hb]
set_option maxHeartbeats 6400000 in
theorem implLocalGet_any (s : ByteArray) (m : Int) (w : World) (hs : s.size ≤ 1048576) (hm : w.cell? ⟨1, 0, none⟩ = some (.int .i64 m)) (hO : OrdC w) :
    Calls Tryz.prog 17 #[.string s] w fun e w' => e = .returned (locV s) ∧ Below w.heap.size w w' := by
  have hmix : Tryz.prog.follows .mixedOrders = true := by kernel_rfl
  have HM := hide hm
  have hmb := hide (World.block_lt_of_cell? _ _ hm)
  have CM := hide (fun W (hb : Below w.heap.size w W) => (hb.cell (p := ⟨1, 0, none⟩) (unhide hmb)).trans (unhide HM))
  have HO := hide (fun W (hb : Below w.heap.size w W) => hO.later hb)
  have CH := hide (fun W => localHeadGet_any s W hs)
  have HSZ := hide hs
  have T0 : Hid (RdS w (w.alloc (.cells #[.string ⟨#[]⟩, .int .i64 0, .int .i64 0, .int .i64 0, .int .i64 0, .int .i64 0, .int .i64 0, .string ⟨#[]⟩] 30))) := ⟨(Below.refl _ _).alloc (Nat.le_refl _) _, blk_alloc w #[.string ⟨#[]⟩, .int .i64 0, .int .i64 0, .int .i64 0, .int .i64 0, .int .i64 0, .int .i64 0, .string ⟨#[]⟩] 30⟩
  clear hm hO hs
  go_enter Tryz.func17, Tryz.ntmps17
  go_wp2_with fail
  refine (unhide CH _).mono ?_
  rintro e x1 ⟨hp, hb⟩
  have T1 := hide ((unhide T0).later hb)
  clear hb T0 CH
  rcases hp with ⟨hd, rfl⟩ | ⟨hd, a, b, c, d, f, n, t, rfl⟩
  · obtain ⟨h30, hfx, hto⟩ := hdB_is.1 hd
    have hnm := nmB_size (s := s) (by omega)
    have hbd := bdB_size (s := s) hto
    have l1 := wd_two s.data.toList 8
    have l2 := wd_four s.data.toList 10
    have l3 := wd_four s.data.toList 14
    have l4 := wd_four s.data.toList 18
    have l5 := wd_four s.data.toList 22
    have l6 := wd_two s.data.toList 26
    have HSz := unhide HSZ
    have CEn := hide (fun W (hb : Below w.heap.size w W) => lhEntry_any (wd s.data.toList 8 2) (wd s.data.toList 10 4) (wd s.data.toList 14 4) (wd s.data.toList 18 4) (wd s.data.toList 22 4) (nmB s) (bdB s) m W (by omega) l1 l2 l3 l5 (by omega) (unhide CM _ hb) (unhide HO _ hb))
    have CPu := hide (fun (hen : enB (wd s.data.toList 8 2) (wd s.data.toList 10 4) (wd s.data.toList 14 4) (wd s.data.toList 22 4) (nmB s) (bdB s) = true) W => headPut_any (wd s.data.toList 8 2) (wd s.data.toList 10 4) (wd s.data.toList 14 4) (wd s.data.toList 18 4) (wd s.data.toList 22 4) (nmB s) (bdB s) W l1 l2 l3 l4 l5 (by omega) (by have := en_small hen; omega))
    have hps : (headB (wd s.data.toList 8 2) (wd s.data.toList 10 4) (wd s.data.toList 14 4) (wd s.data.toList 18 4) (wd s.data.toList 22 4) (nmB s) ++ bdB s).size = 30 + wd s.data.toList 26 2 + wd s.data.toList 18 4 := by
      unfold headB
      rw [ByteArray.size_append, ByteArray.size_append, ByteArray.size_append, toldB_size, hnm, hbd]
      show 4 + 26 + _ + _ = _
      omega
    have HL := hide (loc_en hd)
    unfold enE at CEn HL
    generalize headB (wd s.data.toList 8 2) (wd s.data.toList 10 4) (wd s.data.toList 14 4) (wd s.data.toList 18 4) (wd s.data.toList 22 4) (nmB s) ++ bdB s = PB at *
    generalize enB (wd s.data.toList 8 2) (wd s.data.toList 10 4) (wd s.data.toList 14 4) (wd s.data.toList 22 4) (nmB s) (bdB s) = EB at *
    generalize uxT (wd s.data.toList 8 2) (bdB s) = UT at *
    generalize zz (gOk (wd s.data.toList 10 4 : Nat)) (gY (wd s.data.toList 10 4 : Nat)) = yy at *
    generalize zz (gOk (wd s.data.toList 10 4 : Nat)) (gM (wd s.data.toList 10 4 : Nat)) = mo at *
    generalize zz (gOk (wd s.data.toList 10 4 : Nat)) (gD (wd s.data.toList 10 4 : Nat)) = dd at *
    generalize zz (gOk (wd s.data.toList 10 4 : Nat)) (gH (wd s.data.toList 10 4 : Nat)) = hh at *
    generalize zz (gOk (wd s.data.toList 10 4 : Nat)) (gI (wd s.data.toList 10 4 : Nat)) = mi at *
    generalize zz (gOk (wd s.data.toList 10 4 : Nat)) (gS (wd s.data.toList 10 4 : Nat)) = ss at *
    generalize bdB s = BD at *
    generalize nmB s = NM at *
    generalize wd s.data.toList 8 2 = HW at *
    generalize wd s.data.toList 10 4 = ST at *
    generalize wd s.data.toList 14 4 = CR at *
    generalize wd s.data.toList 18 4 = PK at *
    generalize wd s.data.toList 22 4 = LN at *
    generalize wd s.data.toList 26 2 = NL at *
    have hpI : (PB.size : Int) = ((30 + NL + PK : Nat) : Int) := by omega
    have hpJ : (PB.size : Int) ≤ 1048576 := by omega
    have HPI := hide hpI
    clear hd h30 hfx hto hnm hbd l1 l2 l3 l4 l5 l6 HSz hps hpI
    have T2 := hide ((unhide T1).later ((Below.refl x1.heap.size x1).alloc (Nat.le_refl _) (.cells #[.int .i64 (HW : Nat), .int .i64 (ST : Nat), .int .i64 (CR : Nat), .int .i64 (PK : Nat), .int .i64 (LN : Nat), .string NM, .string BD] 48)))
    have R2 := hide (blk_alloc x1 #[.int .i64 (HW : Nat), .int .i64 (ST : Nat), .int .i64 (CR : Nat), .int .i64 (PK : Nat), .int .i64 (LN : Nat), .string NM, .string BD] 48)
    have hR : w.heap.size < x1.heap.size := (unhide T1).2.1
    clear T1
    go_wp2_with fail
    refine (unhide CEn _ (unhide T2).1).mono ?_
    rintro e x2 ⟨rfl, hb⟩
    have T3 := hide ((unhide T2).later hb)
    have R3 := hide ((unhide R2).later hb (unhide R2).1)
    obtain ⟨HB, hHB⟩ : ∃ x, x1.heap.size = x := ⟨_, rfl⟩
    rw [hHB] at R3 hR
    rw [hHB]
    clear hb T2 R2 hHB CEn
    cases EB
    · have HV : Hid (Ending.returned (.tuple #[.agg #[.string ⟨#[]⟩, .int .i64 0, .int .i64 0, .int .i64 0, .int .i64 0, .int .i64 0, .int .i64 0, .string ⟨#[]⟩], .int .i64 0, .bool false]) = Ending.returned (locV s)) := by show _ = _; rw [unhide HL]; rfl
      rw [show (if false = true then Value.tuple #[.agg #[.string NM, .int .i64 yy, .int .i64 mo, .int .i64 dd, .int .i64 hh, .int .i64 mi, .int .i64 ss, .string UT], .bool true] else .tuple #[noE, .bool false]) = .tuple #[.agg #[.string ⟨#[]⟩, .int .i64 0, .int .i64 0, .int .i64 0, .int .i64 0, .int .i64 0, .int .i64 0, .string ⟨#[]⟩], .bool false] from rfl]
      have T4 := hide ((unhide T3).later ((Below.refl x2.heap.size x2).alloc (Nat.le_refl _) (.cells #[.string ⟨#[]⟩, .int .i64 0, .int .i64 0, .int .i64 0, .int .i64 0, .int .i64 0, .int .i64 0, .string ⟨#[]⟩] 30)))
      clear T3
      have b0 := (unhide T4).2.cell 0 _ rfl
      have g0 := (unhide T4).2.free 0 (by decide)
      have b1 := (unhide T4).2.cell 1 _ rfl
      have g1 := (unhide T4).2.free 1 (by decide)
      have b2 := (unhide T4).2.cell 2 _ rfl
      have g2 := (unhide T4).2.free 2 (by decide)
      have b3 := (unhide T4).2.cell 3 _ rfl
      have g3 := (unhide T4).2.free 3 (by decide)
      have b4 := (unhide T4).2.cell 4 _ rfl
      have g4 := (unhide T4).2.free 4 (by decide)
      have b5 := (unhide T4).2.cell 5 _ rfl
      have g5 := (unhide T4).2.free 5 (by decide)
      have b6 := (unhide T4).2.cell 6 _ rfl
      have g6 := (unhide T4).2.free 6 (by decide)
      have b7 := (unhide T4).2.cell 7 _ rfl
      have g7 := (unhide T4).2.free 7 (by decide)
      have TZ := hide (below_set (o := 7) (below_set (o := 6) (below_set (o := 5) (below_set (o := 4) (below_set (o := 3) (below_set (o := 2) (below_set (o := 1) (below_set (o := 0) (unhide T4).1 (Nat.le_refl _) (.string ⟨#[]⟩)) (Nat.le_refl _) (.int .i64 0)) (Nat.le_refl _) (.int .i64 0)) (Nat.le_refl _) (.int .i64 0)) (Nat.le_refl _) (.int .i64 0)) (Nat.le_refl _) (.int .i64 0)) (Nat.le_refl _) (.int .i64 0)) (Nat.le_refl _) (.string ⟨#[]⟩))
      have ZZ := hide (((((((((unhide T4).2.set 0 (.string ⟨#[]⟩)).set 1 (.int .i64 0)).set 2 (.int .i64 0)).set 3 (.int .i64 0)).set 4 (.int .i64 0)).set 5 (.int .i64 0)).set 6 (.int .i64 0)).set 7 (.string ⟨#[]⟩))
      go_wp2
      have z0 := (unhide ZZ).cell 0 _ rfl
      have z1 := (unhide ZZ).cell 1 _ rfl
      have z2 := (unhide ZZ).cell 2 _ rfl
      have z3 := (unhide ZZ).cell 3 _ rfl
      have z4 := (unhide ZZ).cell 4 _ rfl
      have z5 := (unhide ZZ).cell 5 _ rfl
      have z6 := (unhide ZZ).cell 6 _ rfl
      have z7 := (unhide ZZ).cell 7 _ rfl
      refine bodyPost_ret (v := .tuple #[.agg #[.string ⟨#[]⟩, .int .i64 0, .int .i64 0, .int .i64 0, .int .i64 0, .int .i64 0, .int .i64 0, .string ⟨#[]⟩], .int .i64 0, .bool false]) (by simp [results, Tryz.results17, go_sem, z0, z1, z2, z3, z4, z5, z6, z7]) rfl ⟨unhide HV, unhide TZ⟩
    · have HV : Hid (Ending.returned (.tuple #[.agg #[.string NM, .int .i64 yy, .int .i64 mo, .int .i64 dd, .int .i64 hh, .int .i64 mi, .int .i64 ss, .string UT], .int .i64 (PB.size : Nat), .bool true]) = Ending.returned (locV s)) := by show _ = _; rw [unhide HL, unhide HPI]; rfl
      rw [show (if true = true then Value.tuple #[.agg #[.string NM, .int .i64 yy, .int .i64 mo, .int .i64 dd, .int .i64 hh, .int .i64 mi, .int .i64 ss, .string UT], .bool true] else .tuple #[noE, .bool false]) = .tuple #[.agg #[.string NM, .int .i64 yy, .int .i64 mo, .int .i64 dd, .int .i64 hh, .int .i64 mi, .int .i64 ss, .string UT], .bool true] from rfl]
      have T4 := hide ((unhide T3).later ((Below.refl x2.heap.size x2).alloc (Nat.le_refl _) (.cells #[.string NM, .int .i64 yy, .int .i64 mo, .int .i64 dd, .int .i64 hh, .int .i64 mi, .int .i64 ss, .string UT] 30)))
      have R4 := hide ((unhide R3).later ((Below.refl x2.heap.size x2).alloc (Nat.le_refl _) (.cells #[.string NM, .int .i64 yy, .int .i64 mo, .int .i64 dd, .int .i64 hh, .int .i64 mi, .int .i64 ss, .string UT] 30)) (unhide R3).1)
      have Q4 := hide (blk_alloc x2 #[.string NM, .int .i64 yy, .int .i64 mo, .int .i64 dd, .int .i64 hh, .int .i64 mi, .int .i64 ss, .string UT] 30)
      have hQ : w.heap.size < x2.heap.size := (unhide T3).2.1
      clear T3 R3
      go_wp2_with fail
      obtain ⟨QB, hQB⟩ : ∃ x, x2.heap.size = x := ⟨_, rfl⟩
      obtain ⟨X4, hX4⟩ : ∃ x, x2.alloc (.cells #[.string NM, .int .i64 yy, .int .i64 mo, .int .i64 dd, .int .i64 hh, .int .i64 mi, .int .i64 ss, .string UT] 30) = x := ⟨_, rfl⟩
      rw [hX4] at T4 R4
      rw [hQB, hX4] at Q4
      rw [hQB] at hQ
      rw [hQB, hX4]
      clear hQB hX4
      refine wp_region_held_drew (S := fun W => Blk W QB [.string NM, .int .i64 yy, .int .i64 mo, .int .i64 dd, .int .i64 hh, .int .i64 mi, .int .i64 ss, .string UT] ∧ Blk W HB [.int .i64 (HW : Nat), .int .i64 (ST : Nat), .int .i64 (CR : Nat), .int .i64 (PK : Nat), .int .i64 (LN : Nat), .string NM, .string BD]) hmix ⟨(unhide Q4).drew, (unhide R4).drew⟩ (fun hS => ?_)
      refine wpAnyH_take (i := 0) (v := .agg #[.string NM, .int .i64 yy, .int .i64 mo, .int .i64 dd, .int .i64 hh, .int .i64 mi, .int .i64 ss, .string UT]) rfl (by kernel_rfl) (by kernel_rfl) (by kernel_rfl) (fun _ _ _ h => h) (Or.inl ⟨by rfl, fun W hSw => by have s0 := hSw.1.cell 0 _ rfl; have s1 := hSw.1.cell 1 _ rfl; have s2 := hSw.1.cell 2 _ rfl; have s3 := hSw.1.cell 3 _ rfl; have s4 := hSw.1.cell 4 _ rfl; have s5 := hSw.1.cell 5 _ rfl; have s6 := hSw.1.cell 6 _ rfl; have s7 := hSw.1.cell 7 _ rfl; go_simp⟩) hS ?_
      refine wpAnyH_take (i := 1) (v := .agg #[.int .i64 (HW : Nat), .int .i64 (ST : Nat), .int .i64 (CR : Nat), .int .i64 (PK : Nat), .int .i64 (LN : Nat), .string NM, .string BD]) rfl (by kernel_rfl) (by kernel_rfl) (by kernel_rfl) (fun _ _ _ h => h) (Or.inl ⟨by rfl, fun W hSw => by have s0 := hSw.2.cell 0 _ rfl; have s1 := hSw.2.cell 1 _ rfl; have s2 := hSw.2.cell 2 _ rfl; have s3 := hSw.2.cell 3 _ rfl; have s4 := hSw.2.cell 4 _ rfl; have s5 := hSw.2.cell 5 _ rfl; have s6 := hSw.2.cell 6 _ rfl; go_simp⟩) hS ?_
      have T5 := hide (unhide T4).drew
      have R5 := hide (unhide R4).drew
      have Q5 := hide (unhide Q4).drew
      clear T4 R4 Q4
      generalize X4.drew = W5 at *
      refine wpAnyH_ready (rs := [2]) (by kernel_rfl) (by simp) ?_
      refine AllReadyH.cons rfl (fun K hK => ?_) (AllReadyH.nil)
      go_simp
      go_at_call 25
      refine (unhide CPu trivial W5).mono ?_
      rintro e W6 ⟨rfl, Bd⟩
      have T6 := hide ((unhide T5).later Bd)
      have R6 := hide ((unhide R5).later Bd (unhide R5).1)
      have Q6 := hide ((unhide Q5).later Bd (unhide Q5).1)
      refine Shut.out hK _ _ ⟨unhide Q6, unhide R6⟩ (fun hS => ?_)
      clear hK K
      clear Bd T5 R5 Q5
      refine wpAnyH_take (i := 3) (v := .int .i64 (PB.size : Nat)) rfl (by kernel_rfl) (by kernel_rfl) (by kernel_rfl) (fun _ _ _ h => h) (Or.inl ⟨by rfl, fun W hSw => by go_simp⟩) hS ?_
      refine wpAnyH_ready (rs := [4]) (by kernel_rfl) (by simp) ?_
      refine AllReadyH.cons rfl (fun K hK => ?_) (AllReadyH.nil)
      have b0 := (unhide T6).2.cell 0 _ rfl
      have g0 := (unhide T6).2.free 0 (by decide)
      have b1 := (unhide T6).2.cell 1 _ rfl
      have g1 := (unhide T6).2.free 1 (by decide)
      have b2 := (unhide T6).2.cell 2 _ rfl
      have g2 := (unhide T6).2.free 2 (by decide)
      have b3 := (unhide T6).2.cell 3 _ rfl
      have g3 := (unhide T6).2.free 3 (by decide)
      have b4 := (unhide T6).2.cell 4 _ rfl
      have g4 := (unhide T6).2.free 4 (by decide)
      have b5 := (unhide T6).2.cell 5 _ rfl
      have g5 := (unhide T6).2.free 5 (by decide)
      have b6 := (unhide T6).2.cell 6 _ rfl
      have g6 := (unhide T6).2.free 6 (by decide)
      have b7 := (unhide T6).2.cell 7 _ rfl
      have g7 := (unhide T6).2.free 7 (by decide)
      go_simp
      have TZ := hide (below_set (o := 7) (below_set (o := 6) (below_set (o := 5) (below_set (o := 4) (below_set (o := 3) (below_set (o := 2) (below_set (o := 1) (below_set (o := 0) (unhide T6).1 (Nat.le_refl _) (.string NM)) (Nat.le_refl _) (.int .i64 yy)) (Nat.le_refl _) (.int .i64 mo)) (Nat.le_refl _) (.int .i64 dd)) (Nat.le_refl _) (.int .i64 hh)) (Nat.le_refl _) (.int .i64 mi)) (Nat.le_refl _) (.int .i64 ss)) (Nat.le_refl _) (.string UT))
      have ZZ := hide (((((((((unhide T6).2.set 0 (.string NM)).set 1 (.int .i64 yy)).set 2 (.int .i64 mo)).set 3 (.int .i64 dd)).set 4 (.int .i64 hh)).set 5 (.int .i64 mi)).set 6 (.int .i64 ss)).set 7 (.string UT))
      have RZ := hide (Blk.set_other (o := 7) (Blk.set_other (o := 6) (Blk.set_other (o := 5) (Blk.set_other (o := 4) (Blk.set_other (o := 3) (Blk.set_other (o := 2) (Blk.set_other (o := 1) (Blk.set_other (o := 0) (unhide R6) (.string NM) (Nat.ne_of_gt hR)) (.int .i64 yy) (Nat.ne_of_gt hR)) (.int .i64 mo) (Nat.ne_of_gt hR)) (.int .i64 dd) (Nat.ne_of_gt hR)) (.int .i64 hh) (Nat.ne_of_gt hR)) (.int .i64 mi) (Nat.ne_of_gt hR)) (.int .i64 ss) (Nat.ne_of_gt hR)) (.string UT) (Nat.ne_of_gt hR))
      have QZ := hide (Blk.set_other (o := 7) (Blk.set_other (o := 6) (Blk.set_other (o := 5) (Blk.set_other (o := 4) (Blk.set_other (o := 3) (Blk.set_other (o := 2) (Blk.set_other (o := 1) (Blk.set_other (o := 0) (unhide Q6) (.string NM) (Nat.ne_of_gt hQ)) (.int .i64 yy) (Nat.ne_of_gt hQ)) (.int .i64 mo) (Nat.ne_of_gt hQ)) (.int .i64 dd) (Nat.ne_of_gt hQ)) (.int .i64 hh) (Nat.ne_of_gt hQ)) (.int .i64 mi) (Nat.ne_of_gt hQ)) (.int .i64 ss) (Nat.ne_of_gt hQ)) (.string UT) (Nat.ne_of_gt hQ))
      clear b0 g0 b1 g1 b2 g2 b3 g3 b4 g4 b5 g5 b6 g6 b7 g7
      refine Shut.out hK _ _ ⟨unhide QZ, unhide RZ⟩ (fun hS => ?_)
      clear hK K
      refine wpAnyH_ready (rs := [5]) (by kernel_rfl) (by simp) ?_
      refine AllReadyH.cons rfl (fun K hK => ?_) (AllReadyH.nil)
      go_simp
      refine Shut.out hK _ _ ⟨unhide QZ, unhide RZ⟩ (fun hS => ?_)
      clear hK K
      refine wpAnyH_ready (rs := [6]) (by kernel_rfl) (by simp) ?_
      refine AllReadyH.cons rfl (fun K hK => ?_) (AllReadyH.nil)
      go_simp
      refine Shut.out hK _ _ ⟨unhide QZ, unhide RZ⟩ (fun hS => ?_)
      clear hK K
      refine wpAnyH_done (by kernel_rfl) ?_ _
      go_wp2
      have z0 := (unhide ZZ).cell 0 _ rfl
      have z1 := (unhide ZZ).cell 1 _ rfl
      have z2 := (unhide ZZ).cell 2 _ rfl
      have z3 := (unhide ZZ).cell 3 _ rfl
      have z4 := (unhide ZZ).cell 4 _ rfl
      have z5 := (unhide ZZ).cell 5 _ rfl
      have z6 := (unhide ZZ).cell 6 _ rfl
      have z7 := (unhide ZZ).cell 7 _ rfl
      refine bodyPost_ret (v := .tuple #[.agg #[.string NM, .int .i64 yy, .int .i64 mo, .int .i64 dd, .int .i64 hh, .int .i64 mi, .int .i64 ss, .string UT], .int .i64 (PB.size : Nat), .bool true]) (by simp [results, Tryz.results17, go_sem, z0, z1, z2, z3, z4, z5, z6, z7]) rfl ⟨unhide HV, unhide TZ⟩
  · have HV : Hid (Ending.returned (.tuple #[.agg #[.string ⟨#[]⟩, .int .i64 0, .int .i64 0, .int .i64 0, .int .i64 0, .int .i64 0, .int .i64 0, .string ⟨#[]⟩], .int .i64 0, .bool false]) = Ending.returned (locV s)) := by show _ = _; rw [hd_no hd]; rfl
    have T2 := hide ((unhide T1).later ((Below.refl x1.heap.size x1).alloc (Nat.le_refl _) (.cells #[.int .i64 a, .int .i64 b, .int .i64 c, .int .i64 d, .int .i64 f, .string n, .string t] 48)))
    clear T1 hd
    have b0 := (unhide T2).2.cell 0 _ rfl
    have g0 := (unhide T2).2.free 0 (by decide)
    have b1 := (unhide T2).2.cell 1 _ rfl
    have g1 := (unhide T2).2.free 1 (by decide)
    have b2 := (unhide T2).2.cell 2 _ rfl
    have g2 := (unhide T2).2.free 2 (by decide)
    have b3 := (unhide T2).2.cell 3 _ rfl
    have g3 := (unhide T2).2.free 3 (by decide)
    have b4 := (unhide T2).2.cell 4 _ rfl
    have g4 := (unhide T2).2.free 4 (by decide)
    have b5 := (unhide T2).2.cell 5 _ rfl
    have g5 := (unhide T2).2.free 5 (by decide)
    have b6 := (unhide T2).2.cell 6 _ rfl
    have g6 := (unhide T2).2.free 6 (by decide)
    have b7 := (unhide T2).2.cell 7 _ rfl
    have g7 := (unhide T2).2.free 7 (by decide)
    have TZ := hide (below_set (o := 7) (below_set (o := 6) (below_set (o := 5) (below_set (o := 4) (below_set (o := 3) (below_set (o := 2) (below_set (o := 1) (below_set (o := 0) (unhide T2).1 (Nat.le_refl _) (.string ⟨#[]⟩)) (Nat.le_refl _) (.int .i64 0)) (Nat.le_refl _) (.int .i64 0)) (Nat.le_refl _) (.int .i64 0)) (Nat.le_refl _) (.int .i64 0)) (Nat.le_refl _) (.int .i64 0)) (Nat.le_refl _) (.int .i64 0)) (Nat.le_refl _) (.string ⟨#[]⟩))
    have ZZ := hide (((((((((unhide T2).2.set 0 (.string ⟨#[]⟩)).set 1 (.int .i64 0)).set 2 (.int .i64 0)).set 3 (.int .i64 0)).set 4 (.int .i64 0)).set 5 (.int .i64 0)).set 6 (.int .i64 0)).set 7 (.string ⟨#[]⟩))
    go_wp2
    have z0 := (unhide ZZ).cell 0 _ rfl
    have z1 := (unhide ZZ).cell 1 _ rfl
    have z2 := (unhide ZZ).cell 2 _ rfl
    have z3 := (unhide ZZ).cell 3 _ rfl
    have z4 := (unhide ZZ).cell 4 _ rfl
    have z5 := (unhide ZZ).cell 5 _ rfl
    have z6 := (unhide ZZ).cell 6 _ rfl
    have z7 := (unhide ZZ).cell 7 _ rfl
    refine bodyPost_ret (v := .tuple #[.agg #[.string ⟨#[]⟩, .int .i64 0, .int .i64 0, .int .i64 0, .int .i64 0, .int .i64 0, .int .i64 0, .string ⟨#[]⟩], .int .i64 0, .bool false]) (by simp [results, Tryz.results17, go_sem, z0, z1, z2, z3, z4, z5, z6, z7]) rfl ⟨unhide HV, unhide TZ⟩
end Go.Proofs.YtbacpebljannfaaGreatDoor
namespace Go.Proofs.YtbacpebljannfaaGreatDoor
open Go.RowKit Corb
set_option maxRecDepth 100000
theorem localP_no {n t : ByteArray} {y mo d h mi s : Int} (k : entB n y mo d h mi s t = false) : localP n y mo d h mi s t = ⟨#[]⟩ := by simp [localP, k]
theorem localP_size {n t : ByteArray} {y mo d h mi s : Int} (k : entB n y mo d h mi s t = true) : 30 ≤ (localP n y mo d h mi s t).size ∧ (localP n y mo d h mi s t).size ≤ 400 := by
  obtain ⟨f1, f2, f3⟩ := ent_facts k
  obtain ⟨g1, g2, g3, g4⟩ := st_facts f3
  have e : localP n y mo d h mi s t = localB n t (stN y mo d h mi s).toNat := by simp [localP, k]
  have hz := (local_facts (n := n) (t := t) g3 (by omega) (by omega)).1
  have hb := body_small t
  rw [e]; omega
theorem not_empty {S : ByteArray} (h : 0 < S.size) : S.toList.isEmpty = false := by
  rw [Lib.toList_data]
  have : S.data.toList.length = S.size := by simp
  cases hq : S.data.toList with
  | nil => rw [hq] at this; simp at this; omega
  | cons _ _ => rfl
theorem ba_nil (S : ByteArray) : S ++ (⟨#[]⟩ : ByteArray) = S := ba_of_list (by simp)
theorem ba_behind (S T : ByteArray) : (S ++ T).extract S.size (S ++ T).size = T := ba_of_list (by
  rw [ext_list]
  simp
  exact List.take_of_length_le (by simp))
set_option maxHeartbeats 6400000 in
theorem fnLocalTwo_walk (a : Option Addr) (len cap : Nat) (zs : List Int) (a1 : Option Addr) (len1 cap1 : Nat) (zs1 : List Int) (m : Int) (w : World) (w0 : IsRow .u8 w a len cap zs) (v0 : IsRow .u8 w a1 len1 cap1 zs1) (hm : w.cell? ⟨1, 0, none⟩ = some (.int .i64 m)) (hO : OrdC w) :
    Calls Tryz.prog 8 #[.slice a len cap, .slice a1 len1 cap1] w fun e w' => e = .returned (.bool true) ∧ Below w.heap.size w w' := by
  obtain ⟨⟨z, hsrc⟩, hc, hln⟩ := src_of w0
  obtain ⟨⟨z1, hsrc1⟩, hc1, hln1⟩ := src_of v0
  have HD1 := hide (drawLocalPut_any a len cap z w hsrc hc hln)
  have HD2 := hide (fun W (hW : Below w.heap.size w W) => drawLocalPut_any a1 len1 cap1 z1 W (hsrc1.later hW) hc1 hln1)
  unfold maxLen at hln hln1
  have HM := hide hm
  have hmb := hide (World.block_lt_of_cell? _ _ hm)
  have CM := hide (fun W (hb : Below w.heap.size w W) => (hb.cell (p := ⟨1, 0, none⟩) (unhide hmb)).trans (unhide HM))
  have HO := hide (fun W (hb : Below w.heap.size w W) => hO.later hb)
  clear w0 v0 hsrc hsrc1 hc hc1 hO hm
  by_cases hl : (len : Int) ≤ 1048576
  · by_cases hl1 : (len1 : Int) ≤ 1048576
    · go_enter Tryz.func8, Tryz.ntmps8
      go_wp2_with fail
      refine (unhide HD1).mono ?_
      rintro e x1 ⟨n, y, mo, d, h, mi, s, t, rfl, ⟨hn, ht⟩, hb1⟩
      have B1 := hide hb1
      clear hb1 HD1
      have B2 := hide ((unhide B1).alloc (unhide B1).size (.cells #[.string n, .int .i64 y, .int .i64 mo, .int .i64 d, .int .i64 h, .int .i64 mi, .int .i64 s, .string t] 30))
      have P2 := hide (blk_alloc x1 #[.string n, .int .i64 y, .int .i64 mo, .int .i64 d, .int .i64 h, .int .i64 mi, .int .i64 s, .string t] 30)
      clear B1 
      go_wp2_with fail
      refine (unhide HD2 _ (unhide B2)).mono ?_
      rintro e x3 ⟨n2, y2, mo2, d2, h2, mi2, s2, t2, rfl, ⟨hn2, ht2⟩, hb⟩
      have B3 := hide (bnext (unhide B2) hb)
      have P3 := hide ((unhide P2).later hb (unhide P2).1)
      clear hb B2 P2 HD2
      have B4 := hide ((unhide B3).alloc (unhide B3).size (.cells #[.string n2, .int .i64 y2, .int .i64 mo2, .int .i64 d2, .int .i64 h2, .int .i64 mi2, .int .i64 s2, .string t2] 30))
      have P4 := hide ((unhide P3).later ((Below.refl x3.heap.size x3).alloc (Nat.le_refl _) (.cells #[.string n2, .int .i64 y2, .int .i64 mo2, .int .i64 d2, .int .i64 h2, .int .i64 mi2, .int .i64 s2, .string t2] 30)) (unhide P3).1)
      have Q4 := hide (blk_alloc x3 #[.string n2, .int .i64 y2, .int .i64 mo2, .int .i64 d2, .int .i64 h2, .int .i64 mi2, .int .i64 s2, .string t2] 30)
      clear B3 P3
      have CI1 := hide (fun W (hb : Below w.heap.size w W) => implLocalPut_any n y mo d h mi s t m W (by omega) (by omega) (unhide CM _ hb) (unhide HO _ hb))
      have CI2 := hide (fun W (hb : Below w.heap.size w W) => implLocalPut_any n2 y2 mo2 d2 h2 mi2 s2 t2 m W (by omega) (by omega) (unhide CM _ hb) (unhide HO _ hb))
      have CS1 := hide (fun W => specLocalPut_any n y mo d h mi s t W (by omega) (by omega))
      clear hn ht hn2 ht2
      cases k1 : entB n y mo d h mi s t
      · rw [localP_no k1] at CI1 CS1
        generalize localP n2 y2 mo2 d2 h2 mi2 s2 t2 = T at *
        clear k1
        have p0 := (unhide P4).cell 0 _ rfl
        have p1 := (unhide P4).cell 1 _ rfl
        have p2 := (unhide P4).cell 2 _ rfl
        have p3 := (unhide P4).cell 3 _ rfl
        have p4 := (unhide P4).cell 4 _ rfl
        have p5 := (unhide P4).cell 5 _ rfl
        have p6 := (unhide P4).cell 6 _ rfl
        have p7 := (unhide P4).cell 7 _ rfl
        go_wp2_with fail
        refine (unhide CI1 _ (unhide B4)).mono ?_
        rintro e x5 ⟨rfl, hb⟩
        have B5 := hide (bnext (unhide B4) hb)
        have P5 := hide ((unhide P4).later hb (unhide P4).1)
        have Q5 := hide ((unhide Q4).later hb (unhide Q4).1)
        clear hb B4 P4 Q4 p0 p1 p2 p3 p4 p5 p6 p7
        have q0 := (unhide Q5).cell 0 _ rfl
        have q1 := (unhide Q5).cell 1 _ rfl
        have q2 := (unhide Q5).cell 2 _ rfl
        have q3 := (unhide Q5).cell 3 _ rfl
        have q4 := (unhide Q5).cell 4 _ rfl
        have q5 := (unhide Q5).cell 5 _ rfl
        have q6 := (unhide Q5).cell 6 _ rfl
        have q7 := (unhide Q5).cell 7 _ rfl
        go_wp2_with fail
        refine (unhide CI2 _ (unhide B5)).mono ?_
        rintro e x6 ⟨rfl, hb⟩
        have B6 := hide (bnext (unhide B5) hb)
        have P6 := hide ((unhide P5).later hb (unhide P5).1)
        have Q6 := hide ((unhide Q5).later hb (unhide Q5).1)
        clear hb B5 P5 Q5 q0 q1 q2 q3 q4 q5 q6 q7
        have p0 := (unhide P6).cell 0 _ rfl
        have p1 := (unhide P6).cell 1 _ rfl
        have p2 := (unhide P6).cell 2 _ rfl
        have p3 := (unhide P6).cell 3 _ rfl
        have p4 := (unhide P6).cell 4 _ rfl
        have p5 := (unhide P6).cell 5 _ rfl
        have p6 := (unhide P6).cell 6 _ rfl
        have p7 := (unhide P6).cell 7 _ rfl
        go_wp2_with fail
        refine (unhide CS1 _).mono ?_
        rintro e x7 ⟨rfl, hb⟩
        have B7 := hide (bnext (unhide B6) hb)
        have P7 := hide ((unhide P6).later hb (unhide P6).1)
        have Q7 := hide ((unhide Q6).later hb (unhide Q6).1)
        clear hb B6 P6 Q6 p0 p1 p2 p3 p4 p5 p6 p7
        have p0 := (unhide P7).cell 0 _ rfl
        have p1 := (unhide P7).cell 1 _ rfl
        have p2 := (unhide P7).cell 2 _ rfl
        have p3 := (unhide P7).cell 3 _ rfl
        have p4 := (unhide P7).cell 4 _ rfl
        have p5 := (unhide P7).cell 5 _ rfl
        have p6 := (unhide P7).cell 6 _ rfl
        have p7 := (unhide P7).cell 7 _ rfl
        go_wp2_with fail
        refine (unhide CS1 _).mono ?_
        rintro e x8 ⟨rfl, hb⟩
        have B8 := hide (bnext (unhide B7) hb)
        have P8 := hide ((unhide P7).later hb (unhide P7).1)
        have Q8 := hide ((unhide Q7).later hb (unhide Q7).1)
        clear hb B7 P7 Q7 p0 p1 p2 p3 p4 p5 p6 p7
        go_wp2
        go_ret
        exact ⟨rfl, unhide B8⟩
      · have z1 := localP_size k1
        cases k2 : entB n2 y2 mo2 d2 h2 mi2 s2 t2
        · rw [localP_no k2] at CI2
          have hE := not_empty (S := localP n y mo d h mi s t) (by omega)
          generalize localP n y mo d h mi s t = S at *
          clear k1 k2 z1
          have p0 := (unhide P4).cell 0 _ rfl
          have p1 := (unhide P4).cell 1 _ rfl
          have p2 := (unhide P4).cell 2 _ rfl
          have p3 := (unhide P4).cell 3 _ rfl
          have p4 := (unhide P4).cell 4 _ rfl
          have p5 := (unhide P4).cell 5 _ rfl
          have p6 := (unhide P4).cell 6 _ rfl
          have p7 := (unhide P4).cell 7 _ rfl
          go_wp2_with fail
          refine (unhide CI1 _ (unhide B4)).mono ?_
          rintro e x5 ⟨rfl, hb⟩
          have B5 := hide (bnext (unhide B4) hb)
          have P5 := hide ((unhide P4).later hb (unhide P4).1)
          have Q5 := hide ((unhide Q4).later hb (unhide Q4).1)
          clear hb B4 P4 Q4 p0 p1 p2 p3 p4 p5 p6 p7
          have q0 := (unhide Q5).cell 0 _ rfl
          have q1 := (unhide Q5).cell 1 _ rfl
          have q2 := (unhide Q5).cell 2 _ rfl
          have q3 := (unhide Q5).cell 3 _ rfl
          have q4 := (unhide Q5).cell 4 _ rfl
          have q5 := (unhide Q5).cell 5 _ rfl
          have q6 := (unhide Q5).cell 6 _ rfl
          have q7 := (unhide Q5).cell 7 _ rfl
          go_wp2_with fail
          refine (unhide CI2 _ (unhide B5)).mono ?_
          rintro e x6 ⟨rfl, hb⟩
          have B6 := hide (bnext (unhide B5) hb)
          have P6 := hide ((unhide P5).later hb (unhide P5).1)
          have Q6 := hide ((unhide Q5).later hb (unhide Q5).1)
          clear hb B5 P5 Q5 q0 q1 q2 q3 q4 q5 q6 q7
          have p0 := (unhide P6).cell 0 _ rfl
          have p1 := (unhide P6).cell 1 _ rfl
          have p2 := (unhide P6).cell 2 _ rfl
          have p3 := (unhide P6).cell 3 _ rfl
          have p4 := (unhide P6).cell 4 _ rfl
          have p5 := (unhide P6).cell 5 _ rfl
          have p6 := (unhide P6).cell 6 _ rfl
          have p7 := (unhide P6).cell 7 _ rfl
          go_wp2_with fail
          refine (unhide CS1 _).mono ?_
          rintro e x7 ⟨rfl, hb⟩
          have B7 := hide (bnext (unhide B6) hb)
          have P7 := hide ((unhide P6).later hb (unhide P6).1)
          have Q7 := hide ((unhide Q6).later hb (unhide Q6).1)
          clear hb B6 P6 Q6 p0 p1 p2 p3 p4 p5 p6 p7
          have p0 := (unhide P7).cell 0 _ rfl
          have p1 := (unhide P7).cell 1 _ rfl
          have p2 := (unhide P7).cell 2 _ rfl
          have p3 := (unhide P7).cell 3 _ rfl
          have p4 := (unhide P7).cell 4 _ rfl
          have p5 := (unhide P7).cell 5 _ rfl
          have p6 := (unhide P7).cell 6 _ rfl
          have p7 := (unhide P7).cell 7 _ rfl
          go_wp2_with fail
          refine (unhide CS1 _).mono ?_
          rintro e x8 ⟨rfl, hb⟩
          have B8 := hide (bnext (unhide B7) hb)
          have P8 := hide ((unhide P7).later hb (unhide P7).1)
          have Q8 := hide ((unhide Q7).later hb (unhide Q7).1)
          clear hb B7 P7 Q7 p0 p1 p2 p3 p4 p5 p6 p7
          go_wp2
          go_ret
          exact ⟨rfl, unhide B8⟩
        · have z2 := localP_size k2
          have g1 := local_back k1 (localP n2 y2 mo2 d2 h2 mi2 s2 t2)
          have g2 := local_back k2 ⟨#[]⟩
          rw [ba_nil] at g2
          have hE := not_empty (S := localP n y mo d h mi s t) (by omega)
          have hE2 := not_empty (S := localP n2 y2 mo2 d2 h2 mi2 s2 t2) (by omega)
          generalize localP n y mo d h mi s t = S at *
          generalize localP n2 y2 mo2 d2 h2 mi2 s2 t2 = T at *
          have hST : (S ++ T).size = S.size + T.size := ByteArray.size_append
          have CG1 := hide (fun W (hb : Below w.heap.size w W) => implLocalGet_any (S ++ T) m W (by omega) (unhide CM _ hb) (unhide HO _ hb))
          have CG2 := hide (fun W (hb : Below w.heap.size w W) => implLocalGet_any T m W (by omega) (unhide CM _ hb) (unhide HO _ hb))
          rw [g1] at CG1
          rw [g2] at CG2
          have hx := ba_behind S T
          have hSI : (S.size : Int) ≤ 400 := by omega
          have hTI : (T.size : Int) ≤ 400 := by omega
          have hS0 : 0 ≤ (S.size : Int) := by omega
          have hle : (S.size : Int) ≤ ((S ++ T).size : Int) := by omega
          have hle2 : ((S ++ T).size : Int) ≤ 800 := by omega
          clear k1 k2 z1 z2 g1 g2 hST
          generalize hU : S ++ T = U at *
          have p0 := (unhide P4).cell 0 _ rfl
          have p1 := (unhide P4).cell 1 _ rfl
          have p2 := (unhide P4).cell 2 _ rfl
          have p3 := (unhide P4).cell 3 _ rfl
          have p4 := (unhide P4).cell 4 _ rfl
          have p5 := (unhide P4).cell 5 _ rfl
          have p6 := (unhide P4).cell 6 _ rfl
          have p7 := (unhide P4).cell 7 _ rfl
          go_wp2_with fail
          refine (unhide CI1 _ (unhide B4)).mono ?_
          rintro e x5 ⟨rfl, hb⟩
          have B5 := hide (bnext (unhide B4) hb)
          have P5 := hide ((unhide P4).later hb (unhide P4).1)
          have Q5 := hide ((unhide Q4).later hb (unhide Q4).1)
          clear hb B4 P4 Q4 p0 p1 p2 p3 p4 p5 p6 p7
          have q0 := (unhide Q5).cell 0 _ rfl
          have q1 := (unhide Q5).cell 1 _ rfl
          have q2 := (unhide Q5).cell 2 _ rfl
          have q3 := (unhide Q5).cell 3 _ rfl
          have q4 := (unhide Q5).cell 4 _ rfl
          have q5 := (unhide Q5).cell 5 _ rfl
          have q6 := (unhide Q5).cell 6 _ rfl
          have q7 := (unhide Q5).cell 7 _ rfl
          go_wp2_with fail
          refine (unhide CI2 _ (unhide B5)).mono ?_
          rintro e x6 ⟨rfl, hb⟩
          have B6 := hide (bnext (unhide B5) hb)
          have P6 := hide ((unhide P5).later hb (unhide P5).1)
          have Q6 := hide ((unhide Q5).later hb (unhide Q5).1)
          clear hb B5 P5 Q5 q0 q1 q2 q3 q4 q5 q6 q7
          have p0 := (unhide P6).cell 0 _ rfl
          have p1 := (unhide P6).cell 1 _ rfl
          have p2 := (unhide P6).cell 2 _ rfl
          have p3 := (unhide P6).cell 3 _ rfl
          have p4 := (unhide P6).cell 4 _ rfl
          have p5 := (unhide P6).cell 5 _ rfl
          have p6 := (unhide P6).cell 6 _ rfl
          have p7 := (unhide P6).cell 7 _ rfl
          go_wp2_with fail
          refine (unhide CS1 _).mono ?_
          rintro e x7 ⟨rfl, hb⟩
          have B7 := hide (bnext (unhide B6) hb)
          have P7 := hide ((unhide P6).later hb (unhide P6).1)
          have Q7 := hide ((unhide Q6).later hb (unhide Q6).1)
          clear hb B6 P6 Q6 p0 p1 p2 p3 p4 p5 p6 p7
          go_wp2_with fail
          refine (unhide CG1 _ (unhide B7)).mono ?_
          rintro e x8 ⟨rfl, hb⟩
          have B8 := hide (bnext (unhide B7) hb)
          have P8 := hide ((unhide P7).later hb (unhide P7).1)
          have Q8 := hide ((unhide Q7).later hb (unhide Q7).1)
          clear hb B7 P7 Q7
          have B9 := hide ((unhide B8).alloc (unhide B8).size (.cells #[.string n, .int .i64 y, .int .i64 mo, .int .i64 d, .int .i64 h, .int .i64 mi, .int .i64 s, .string t] 30))
          have P9 := hide ((unhide P8).later ((Below.refl x8.heap.size x8).alloc (Nat.le_refl _) (.cells #[.string n, .int .i64 y, .int .i64 mo, .int .i64 d, .int .i64 h, .int .i64 mi, .int .i64 s, .string t] 30)) (unhide P8).1)
          have Q9 := hide ((unhide Q8).later ((Below.refl x8.heap.size x8).alloc (Nat.le_refl _) (.cells #[.string n, .int .i64 y, .int .i64 mo, .int .i64 d, .int .i64 h, .int .i64 mi, .int .i64 s, .string t] 30)) (unhide Q8).1)
          have X9 := hide (blk_alloc x8 #[.string n, .int .i64 y, .int .i64 mo, .int .i64 d, .int .i64 h, .int .i64 mi, .int .i64 s, .string t] 30)
          clear B8 P8 Q8
          go_wp2_with fail
          refine (unhide CG2 _ (unhide B9)).mono ?_
          rintro e x10 ⟨rfl, hb⟩
          have B10 := hide (bnext (unhide B9) hb)
          have P10 := hide ((unhide P9).later hb (unhide P9).1)
          have Q10 := hide ((unhide Q9).later hb (unhide Q9).1)
          have X10 := hide ((unhide X9).later hb (unhide X9).1)
          clear hb B9 P9 Q9 X9
          have B11 := hide ((unhide B10).alloc (unhide B10).size (.cells #[.string n2, .int .i64 y2, .int .i64 mo2, .int .i64 d2, .int .i64 h2, .int .i64 mi2, .int .i64 s2, .string t2] 30))
          have P11 := hide ((unhide P10).later ((Below.refl x10.heap.size x10).alloc (Nat.le_refl _) (.cells #[.string n2, .int .i64 y2, .int .i64 mo2, .int .i64 d2, .int .i64 h2, .int .i64 mi2, .int .i64 s2, .string t2] 30)) (unhide P10).1)
          have Q11 := hide ((unhide Q10).later ((Below.refl x10.heap.size x10).alloc (Nat.le_refl _) (.cells #[.string n2, .int .i64 y2, .int .i64 mo2, .int .i64 d2, .int .i64 h2, .int .i64 mi2, .int .i64 s2, .string t2] 30)) (unhide Q10).1)
          have X11 := hide ((unhide X10).later ((Below.refl x10.heap.size x10).alloc (Nat.le_refl _) (.cells #[.string n2, .int .i64 y2, .int .i64 mo2, .int .i64 d2, .int .i64 h2, .int .i64 mi2, .int .i64 s2, .string t2] 30)) (unhide X10).1)
          have Y11 := hide (blk_alloc x10 #[.string n2, .int .i64 y2, .int .i64 mo2, .int .i64 d2, .int .i64 h2, .int .i64 mi2, .int .i64 s2, .string t2] 30)
          clear B10 P10 Q10 X10
          have p0 := (unhide P11).cell 0 _ rfl
          have p1 := (unhide P11).cell 1 _ rfl
          have p2 := (unhide P11).cell 2 _ rfl
          have p3 := (unhide P11).cell 3 _ rfl
          have p4 := (unhide P11).cell 4 _ rfl
          have p5 := (unhide P11).cell 5 _ rfl
          have p6 := (unhide P11).cell 6 _ rfl
          have p7 := (unhide P11).cell 7 _ rfl
          have q0 := (unhide Q11).cell 0 _ rfl
          have q1 := (unhide Q11).cell 1 _ rfl
          have q2 := (unhide Q11).cell 2 _ rfl
          have q3 := (unhide Q11).cell 3 _ rfl
          have q4 := (unhide Q11).cell 4 _ rfl
          have q5 := (unhide Q11).cell 5 _ rfl
          have q6 := (unhide Q11).cell 6 _ rfl
          have q7 := (unhide Q11).cell 7 _ rfl
          have u0 := (unhide X11).cell 0 _ rfl
          have u1 := (unhide X11).cell 1 _ rfl
          have u2 := (unhide X11).cell 2 _ rfl
          have u3 := (unhide X11).cell 3 _ rfl
          have u4 := (unhide X11).cell 4 _ rfl
          have u5 := (unhide X11).cell 5 _ rfl
          have u6 := (unhide X11).cell 6 _ rfl
          have u7 := (unhide X11).cell 7 _ rfl
          have v0 := (unhide Y11).cell 0 _ rfl
          have v1 := (unhide Y11).cell 1 _ rfl
          have v2 := (unhide Y11).cell 2 _ rfl
          have v3 := (unhide Y11).cell 3 _ rfl
          have v4 := (unhide Y11).cell 4 _ rfl
          have v5 := (unhide Y11).cell 5 _ rfl
          have v6 := (unhide Y11).cell 6 _ rfl
          have v7 := (unhide Y11).cell 7 _ rfl
          go_wp2
          go_ret
          exact ⟨rfl, unhide B11⟩
    · go_enter Tryz.func8, Tryz.ntmps8
      go_wp2
      go_ret
      exact ⟨rfl, Below.refl _ _⟩
  · go_enter Tryz.func8, Tryz.ntmps8
    go_wp2
    go_ret
    exact ⟨rfl, Below.refl _ _⟩
end Go.Proofs.YtbacpebljannfaaGreatDoor
