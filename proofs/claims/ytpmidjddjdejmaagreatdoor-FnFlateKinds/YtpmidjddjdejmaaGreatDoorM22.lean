/- Of what the proof is made: 10 texts, one behind the other. -/
import Derived.Test.YtpmidjddjdejmaaGreatDoorFk3
import Derived.Test.YtpmidjddjdejmaaGreatDoorFb4
import Derived.Test.YtpmidjddjdejmaaGreatDoorTo2
import Derived.Deep.RegionHeld3
import Derived.Deep.DeepCutAuto
import Derived.Test.YtpmidjddjdejmaaGreatDoorM14
import Derived.Test.YtpmidjddjdejmaaGreatDoorM5
import Derived.Test.YtpmidjddjdejmaaGreatDoorM15
import Derived.Test.YtpmidjddjdejmaaGreatDoorM2
import Derived.Test.YtpmidjddjdejmaaGreatDoorM20
import Derived.Test.YtpmidjddjdejmaaGreatDoorFs4
import Derived.Test.YtpmidjddjdejmaaGreatDoorM8
import Derived.Test.YtpmidjddjdejmaaGreatDoorM17
import Derived.Test.YtpmidjddjdejmaaGreatDoorM9
import Derived.Lib.AppendZerosOnto
import Derived.Test.YtpmidjddjdejmaaGreatDoorAr1
namespace Go.Proofs.YtpmidjddjdejmaaGreatDoor
open Go.RowKit Corb
def NKRow (w : World) (b : Nat) (a : Option Addr) (l : List Tk) : Prop := KRow w a l ∧ (0 < l.length → ∀ x, a = some x → x.block ≠ b ∧ ∀ cur fr, w.heap[x.block]? ≠ some (.cells cur 5 fr))
theorem NKRow.keep {w w' : World} {b : Nat} {a : Option Addr} {l : List Tk} (h : NKRow w b a l) (hk : Keep5 b w w') : NKRow w' b a l := by
  by_cases h0 : 0 < l.length
  · obtain ⟨g, o, e, hg, hc⟩ := h.1 h0
    obtain ⟨h1, h2⟩ := h.2 h0 _ e
    have hb := hk.2 g hg h1 h2
    refine ⟨fun _ => ⟨g, o, e, Nat.lt_of_lt_of_le hg hk.1, fun i hi => ?_⟩, fun _ x ex => ?_⟩
    · obtain ⟨c0, c1, c2⟩ := hc i hi
      exact ⟨by rw [← c0]; exact World.cell?_of_block (w := w) hb, by rw [← c1]; exact World.cell?_of_block (w := w) hb, by rw [← c2]; exact World.cell?_of_block (w := w) hb⟩
    · have : x = ⟨g, o, none⟩ := by rw [ex] at e; exact Option.some.inj e
      subst this
      exact ⟨h1, fun cur fr => by rw [hb]; exact h2 cur fr⟩
  · exact ⟨fun h => absurd h h0, fun h => absurd h h0⟩
theorem kown_nrow {w : World} {b base n cap : Nat} {a : Option Addr} {l : List Tk} (hn : l.length = n) (h : KOwn w base (.slice a n cap) l) (hb : b < base) : NKRow w b a l := by
  refine ⟨h.rowN hn, fun h0 x ex => ?_⟩
  subst ex
  rcases h.2 with ⟨e, _⟩ | ⟨g, cap', cur, e, hbg, hg, _⟩
  · cases e
  · simp only [Value.slice.injEq, Option.some.injEq] at e
    obtain ⟨rfl, _⟩ := e
    refine ⟨by show g ≠ b; omega, fun cur' fr => ?_⟩
    show w.heap[g]? ≠ _
    rw [hg]
    intro e
    cases e
def pcTM (L D : List Int) (t : Tk) : List (Int × Int) :=
  if isB t then [pcM L t.1.toNat]
  else [pcM L (257 + fnd 3 4 t.2.1.toNat 27), ((t.2.1.toNat : Int) - ((stF 3 4 (fnd 3 4 t.2.1.toNat 27)).1 : Int), ((stF 3 4 (fnd 3 4 t.2.1.toNat 27)).2 : Nat)), pcM D (fnd 1 2 t.2.2.toNat 29), ((t.2.2.toNat : Int) - ((stF 1 2 (fnd 1 2 t.2.2.toNat 29)).1 : Int), ((stF 1 2 (fnd 1 2 t.2.2.toNat 29)).2 : Nat))]
def RR (W : World) (b : Nat) (L D : List Int) (T : List Tk) (a a2 va vb vl vk at_ : Option Addr) : Prop :=
  (NRow W b a L ∧ NRow W b a2 D) ∧ (NRow W b va (outN L 15).2 ∧ NRow W b vb (outN D 15).2) ∧ (NRow W b vl longB ∧ NRow W b vk backB) ∧ NKRow W b at_ T
theorem RR.keep {W W' : World} {b : Nat} {L D : List Int} {T : List Tk} {a a2 va vb vl vk at_ : Option Addr} (h : RR W b L D T a a2 va vb vl vk at_) (hk : Keep5 b W W') : RR W' b L D T a a2 va vb vl vk at_ :=
  ⟨⟨h.1.1.keep hk, h.1.2.keep hk⟩, ⟨h.2.1.1.keep hk, h.2.1.2.keep hk⟩, ⟨h.2.2.1.1.keep hk, h.2.2.1.2.keep hk⟩, h.2.2.2.keep hk⟩
def goodL (l : List Int) : Prop := ∀ k, k < l.length → (0 ≤ l.getD k 0 ∧ l.getD k 0 ≤ 15) ∧ (0 ≤ (outN l 15).2.getD k 0 ∧ (outN l 15).2.getD k 0 < 65536)
theorem keep_below {b : Nat} {w w' : World} (h : Below w.heap.size w w') : Keep5 b w w' := ⟨h.size, fun k hk _ _ => h.block k hk⟩
theorem blk_keep {b g : Nat} {w w' : World} {cs : Array Value} {t : TypeId} (hk : Keep5 b w w') (h : w.heap[g]? = some (Obj.cells cs t)) (hg : g ≠ b) (ht : t ≠ 5) : w'.heap[g]? = some (Obj.cells cs t) := by
  refine (hk.2 g (heap_lt h) hg (fun cur fr => ?_)).trans h
  rw [h]
  intro e
  cases e
  exact ht rfl
theorem irow_cell {w : World} {b k : Nat} {a : Option Addr} {l : List Int} (h : NRow w b a l) (hk : k < l.length) : ∃ g o, a = some ⟨g, o, none⟩ ∧ g < w.heap.size ∧ w.cell? ⟨g, o + k, none⟩ = some (.int .i64 (l.getD k 0)) := by
  obtain ⟨g, o, e, hg, hc⟩ := h.1 (by omega)
  exact ⟨g, o, e, hg, hc k hk⟩
theorem stF_long (y : Nat) (h0 : 3 ≤ y) (h1 : y ≤ 60) : pOk ((y : Int) - ((stF 3 4 (fnd 3 4 y 27)).1 : Int)) ((stF 3 4 (fnd 3 4 y 27)).2 : Nat) = true := by
  have : (List.range 61).all (fun y => decide (y < 3) || pOk ((y : Int) - ((stF 3 4 (fnd 3 4 y 27)).1 : Int)) ((stF 3 4 (fnd 3 4 y 27)).2 : Nat)) = true := by decide +kernel
  have := List.all_eq_true.1 this y (List.mem_range.2 (by omega))
  simp only [Bool.or_eq_true, decide_eq_true_eq] at this
  rcases this with h | h
  · omega
  · exact h
theorem stF_back (z : Nat) (h0 : 1 ≤ z) (h1 : z ≤ 250) : pOk ((z : Int) - ((stF 1 2 (fnd 1 2 z 29)).1 : Int)) ((stF 1 2 (fnd 1 2 z 29)).2 : Nat) = true := by
  have : (List.range 251).all (fun z => decide (z < 1) || pOk ((z : Int) - ((stF 1 2 (fnd 1 2 z 29)).1 : Int)) ((stF 1 2 (fnd 1 2 z 29)).2 : Nat)) = true := by decide +kernel
  have := List.all_eq_true.1 this z (List.mem_range.2 (by omega))
  simp only [Bool.or_eq_true, decide_eq_true_eq] at this
  rcases this with h | h
  · omega
  · exact h
theorem outP_bits (p : Nat × Nat) (l : List (Int × Int)) (h : ∀ x ∈ l, x.2 ≤ 16) : (outP p l).2 ≤ p.2 + 16 * l.length := by
  unfold outP natP
  induction l generalizing p with
  | nil => simp [putV]
  | cons x r ih =>
    have h1 := h x (by simp)
    have h2 := ih (p.1 + x.1.toNat * 2 ^ p.2, p.2 + x.2.toNat) (fun y hy => h y (by simp [hy]))
    simp only [List.map_cons, putV, List.length_cons] at *
    omega
theorem pcTM_bits (L D : List Int) (t : Tk) (gL : goodL L) (gD : goodL D) (hf : fitsT L D t) : (∀ x ∈ pcTM L D t, x.2 ≤ 16) ∧ (pcTM L D t).length ≤ 4 := by
  unfold pcTM
  unfold fitsT at hf
  split
  · rename_i h
    rw [if_pos h] at hf
    refine ⟨fun x hx => ?_, by simp⟩
    simp only [List.mem_cons, List.not_mem_nil, or_false] at hx
    subst hx
    have := (gL _ hf).1.2
    show L.getD _ 0 ≤ 16
    omega
  · rename_i h
    rw [if_neg h] at hf
    refine ⟨fun x hx => ?_, by simp⟩
    simp only [List.mem_cons, List.not_mem_nil, or_false] at hx
    have s1 := stF_bd (L := 3) (G := 4) (k := fnd 3 4 t.2.1.toNat 27) (by omega) (by omega) (by omega) (by have := fnd_le 3 4 t.2.1.toNat 27; omega)
    have s2 := stF_bd (L := 1) (G := 2) (k := fnd 1 2 t.2.2.toNat 29) (by omega) (by omega) (by omega) (by have := fnd_le 1 2 t.2.2.toNat 29; omega)
    rcases hx with rfl | rfl | rfl | rfl
    · have := (gL _ hf.1).1.2; show L.getD _ 0 ≤ 16; omega
    · show ((_ : Nat) : Int) ≤ 16; omega
    · have := (gD _ hf.2).1.2; show D.getD _ 0 ≤ 16; omega
    · show ((_ : Nat) : Int) ≤ 16; omega
theorem flatM_bits (L D : List Int) (T : List Tk) (p : Nat × Nat) (gL : goodL L) (gD : goodL D) (hf : ∀ t ∈ T, fitsT L D t) : (outP p (T.flatMap (pcTM L D))).2 ≤ p.2 + 64 * T.length := by
  induction T generalizing p with
  | nil => simp [outP, natP, putV]
  | cons t r ih =>
    rw [List.flatMap_cons, outP_append]
    obtain ⟨h1, h2⟩ := pcTM_bits L D t gL gD (hf t (by simp))
    have h3 := outP_bits p (pcTM L D t) h1
    have h4 := ih (outP p (pcTM L D t)) (fun x hx => hf x (by simp [hx]))
    simp only [List.length_cons]
    omega
end Go.Proofs.YtpmidjddjdejmaaGreatDoor
namespace Go.Proofs.YtpmidjddjdejmaaGreatDoor
open Go.RowKit Corb
theorem l3Codes_v (a : Option Addr) (cap n : Nat) (l : List Int) (w : World) (hn : l.length = n) (h : IRow w a l) (hm : n ≤ 300) :
    Calls Tryz.prog 105 #[.slice a n cap] w fun e w' => (∃ g, e = .returned (.slice (some ⟨g, 0, none⟩) n n) ∧ IOwn w' w.heap.size (.slice (some ⟨g, 0, none⟩) n n) (outN l 15).2) ∧ Below w.heap.size w w' :=
  (l3Codes_any a cap n l w hn h hm).mono fun _ _ ⟨he, ho, hb⟩ => ⟨⟨_, he, ho⟩, hb⟩
theorem longBits_v (w : World) : Calls Tryz.prog 98 #[] w fun e w' => (∃ g, e = .returned (.slice (some ⟨g, 0, none⟩) 28 28) ∧ IOwn w' w.heap.size (.slice (some ⟨g, 0, none⟩) 28 28) longL) ∧ Below w.heap.size w w' :=
  (longBits_any w).mono fun _ _ ⟨he, ho, hb⟩ => ⟨⟨_, he, ho⟩, hb⟩
theorem backBits_v (w : World) : Calls Tryz.prog 99 #[] w fun e w' => (∃ g, e = .returned (.slice (some ⟨g, 0, none⟩) 30 30) ∧ IOwn w' w.heap.size (.slice (some ⟨g, 0, none⟩) 30 30) backL) ∧ Below w.heap.size w w' :=
  (backBits_any w).mono fun _ _ ⟨he, ho, hb⟩ => ⟨⟨_, he, ho⟩, hb⟩
theorem longB_len : longB.length = 28 := baseL_len _ _ _
theorem backB_len : backB.length = 30 := baseL_len _ _ _
set_option maxRecDepth 100000 in
set_option maxHeartbeats 6400000 in
theorem tokensM_any (b : Nat) (p : Nat × Nat) (ta a a2 : Option Addr) (tcap tn cap n cap2 n2 : Nat) (T : List Tk) (L D : List Int) (w : World) (ho : OutQ w b p) (hT : NKRow w b ta T) (hL : NRow w b a L) (hD : NRow w b a2 D)
    (htn : T.length = tn) (hn : L.length = n) (hn2 : D.length = n2) (hn3 : n ≤ 300) (hn4 : n2 ≤ 300) (gL : goodL L) (gD : goodL D) (h256 : 256 < n) (htm : (tn : Int) ≤ 300) (hp : p.2 ≤ 10000)
    (hok : ∀ t ∈ T, okT t = true ∧ fitsT L D t) :
    Calls Tryz.prog 72 #[.pointer (some ⟨b, 0, none⟩), .slice ta tn tcap, .slice a n cap, .slice a2 n2 cap2] w fun e w' => e = .returned (.tuple #[]) ∧ OutQ w' b (outP p (T.flatMap (pcTM L D) ++ [pcM L 256])) ∧ KB b w w' := by
  have hbw : b < w.heap.size := Out.lt ho
  have hmix : Tryz.prog.follows .mixedOrders = true := by kernel_rfl
  have HT := hide hT
  have HO := hide ho
  have HL := hide hL
  have HD := hide hD
  have Htn := hide htn
  have Hn := hide hn
  have Hn2 := hide hn2
  have Hn3 := hide hn3
  have Hn4 := hide hn4
  have HgL := hide gL
  have HgD := hide gD
  have H256 := hide h256
  have Hp := hide hp
  have Hok := hide hok
  have hnI : (n : Int) ≤ 300 := by omega
  have hnI2 : (n2 : Int) ≤ 300 := by omega
  clear hT ho hL hD htn hn hn2 hn3 hn4 gL gD h256 hp hok
  go_enter Tryz.func72, Tryz.ntmps72
  go_wp2_with fail
  refine (l3Codes_v a cap n L _ (unhide Hn) (unhide HL).1 (unhide Hn3)).mono ?_
  rintro e x1 ⟨⟨g1, rfl, o1⟩, b1⟩
  have N1 := hide (iown_nrow ((outN_len L 15).trans (unhide Hn)) o1 hbw)
  have B1 := hide b1
  clear o1 b1
  go_wp2_with fail
  refine (l3Codes_v a2 cap2 n2 D _ (unhide Hn2) ((unhide HD).below (unhide B1)).1 (unhide Hn4)).mono ?_
  rintro e x2 ⟨⟨g2, rfl, o2⟩, b2⟩
  have N2 := hide (iown_nrow ((outN_len D 15).trans (unhide Hn2)) o2 (Nat.lt_of_lt_of_le hbw (unhide B1).size))
  have N1' := hide ((unhide N1).below b2)
  have B2 := hide (bnext (unhide B1) b2)
  clear o2 b2 N1 B1
  go_wp2_with fail
  refine (longBits_v _).mono ?_
  rintro e x3 ⟨⟨g3, rfl, o3⟩, b3⟩
  have R3 := hide (o3.rowN rfl)
  have B3 := hide (bnext (unhide B2) b3)
  have N1 := hide ((unhide N1').below b3)
  have N2' := hide ((unhide N2).below b3)
  clear o3 b3 B2 N1' N2
  go_wp2_with fail
  refine (l5BaseLong_any _ 28 _ (unhide R3)).mono ?_
  rintro e x4 ⟨v4, rfl, o4, b4⟩
  obtain ⟨a4, c4, rfl⟩ := o4.formN longB_len
  have N4 := hide (iown_nrow longB_len o4 (Nat.lt_of_lt_of_le hbw (unhide B3).size))
  have B4 := hide (bnext (unhide B3) b4)
  have N1' := hide ((unhide N1).below b4)
  have N2 := hide ((unhide N2').below b4)
  clear o4 b4 B3 N1 N2' R3
  go_wp2_with fail
  refine (backBits_v _).mono ?_
  rintro e x5 ⟨⟨g5, rfl, o5⟩, b5⟩
  have R5 := hide (o5.rowN rfl)
  have B5 := hide (bnext (unhide B4) b5)
  have N1 := hide ((unhide N1').below b5)
  have N2' := hide ((unhide N2).below b5)
  have N4' := hide ((unhide N4).below b5)
  clear o5 b5 B4 N1' N2 N4
  go_wp2_with fail
  refine (l5BaseBack_any _ 30 _ (unhide R5)).mono ?_
  rintro e x6 ⟨v6, rfl, o6, b6⟩
  obtain ⟨a6, c6, rfl⟩ := o6.formN backB_len
  have N6 := hide (iown_nrow backB_len o6 (Nat.lt_of_lt_of_le hbw (unhide B5).size))
  have B6 := hide (bnext (unhide B5) b6)
  have HR6 : Hid (RR x6 b L D T a a2 (some ⟨g1, 0, none⟩) (some ⟨g2, 0, none⟩) a4 a6 ta) :=
    ⟨⟨(unhide HL).below (unhide B6), (unhide HD).below (unhide B6)⟩, ⟨(unhide N1).below b6, (unhide N2').below b6⟩, ⟨(unhide N4').below b6, unhide N6⟩, (unhide HT).keep (keep_below (unhide B6))⟩
  have HO6 : Hid (OutQ x6 b (outP p ((T.take 0).flatMap (pcTM L D)))) := Out.kept (unhide HO) (unhide B6)
  have HK6 : Hid (KB b w x6) := (KB.refl b w).below (unhide B6) (Nat.le_of_lt hbw)
  clear o6 b6 B5 N1 N2' N4' N6 R5 HT HO HL HD B6
  go_wp2_with fail
  go_loopw [12, 13, 14] (fun i _ _ wr => ∃ k : Nat, k ≤ tn ∧ i = .int .i64 k ∧ OutQ wr b (outP p ((T.take k).flatMap (pcTM L D))) ∧ RR wr b L D T a a2 (some ⟨g1, 0, none⟩) (some ⟨g2, 0, none⟩) a4 a6 ta ∧ KB b w wr) (fun i _ _ _ => tn - (intOf i).toNat)
  case atStart => exact ⟨0, Nat.zero_le _, rfl, unhide HO6, unhide HR6, unhide HK6⟩
  case round =>
    obtain ⟨k, hk, rfl, ho, hrr, hkb⟩ := hrel
    clear HO6 HR6 HK6
    have HO := hide ho
    have HRR := hide hrr
    have HKB := hide hkb
    have HK := hide hk
    have hbr : Hid (b < wr.heap.size) := Out.lt ho
    clear ho hkb hk
    by_cases hlt : k < tn
    · have hltI : (k : Int) < (tn : Int) := by omega
      obtain ⟨g, o, rfl, hg, hc⟩ := hrr.2.2.2.1 (by rw [unhide Htn]; omega)
      obtain ⟨c0, c1, c2⟩ := hc k (by rw [unhide Htn]; exact hlt)
      have Hstep : Hid ((T.take (k + 1)).flatMap (pcTM L D) = (T.take k).flatMap (pcTM L D) ++ pcTM L D (T.getD k k0)) := by
        show (T.take (k + 1)).flatMap (pcTM L D) = _
        rw [take_snocK T k (by rw [unhide Htn]; exact hlt)]
        simp
      obtain ⟨hokk, hfit⟩ := unhide Hok (T.getD k k0) (by have : k < T.length := by rw [unhide Htn]; exact hlt
                                                          simp [List.getD, this])
      have Hbits : Hid ((outP p ((T.take k).flatMap (pcTM L D))).2 ≤ 80000) := by
        show _ ≤ _
        have h1 := flatM_bits L D (T.take k) p (unhide HgL) (unhide HgD) (fun t ht => (unhide Hok t (List.mem_of_mem_take ht)).2)
        have h2 : (T.take k).length ≤ k := List.length_take_le _ _
        have h3 := unhide Hp
        omega
      clear hc hrr
      generalize T.getD k k0 = t at *
      have HPE : Hid (outP p ((T.take (k + 1)).flatMap (pcTM L D)) = outP (outP p ((T.take k).flatMap (pcTM L D))) (pcTM L D t)) := by
        show outP p _ = _
        rw [unhide Hstep, outP_append]
      generalize outP p ((T.take k).flatMap (pcTM L D)) = P at *
      have hbA : Below wr.heap.size wr (wr.alloc (.cells #[.int .i64 t.1, .int .i64 t.2.1, .int .i64 t.2.2] 148)) := (Below.refl _ _).alloc (Nat.le_refl _) _
      have HO1 : Hid (OutQ (wr.alloc (.cells #[.int .i64 t.1, .int .i64 t.2.1, .int .i64 t.2.2] 148)) b P) := Out.kept (unhide HO) hbA
      have HR1 := hide ((unhide HRR).keep (keep_below hbA))
      have HK1 := hide ((unhide HKB).below hbA (Nat.le_of_lt (unhide hbr)))
      have HB1 := hide (alloc_at wr (.cells #[.int .i64 t.1, .int .i64 t.2.1, .int .i64 t.2.2] 148))
      clear hbA HO HRR HKB
      cases hB : isB t
      · have hK : isK t = true := by unfold okT at hokk; rw [hB] at hokk; simpa using hokk
        obtain ⟨y0, y1, z0, z1⟩ := isK_bd hK
        have hx0 : t.1 = 0 := by unfold isK at hK; simp only [Bool.and_eq_true, decide_eq_true_eq] at hK; exact hK.1.1
        have hf2 : Hid (257 + fnd 3 4 t.2.1.toNat 27 < n ∧ fnd 1 2 t.2.2.toNat 29 < n2) := by
          have := hfit
          unfold fitsT at this
          rw [if_neg (by simp [hB]), unhide Hn, unhide Hn2] at this
          exact this
        have HPc : Hid (pcTM L D t = [pcM L (257 + fnd 3 4 t.2.1.toNat 27), ((t.2.1.toNat : Int) - ((stF 3 4 (fnd 3 4 t.2.1.toNat 27)).1 : Int), ((stF 3 4 (fnd 3 4 t.2.1.toNat 27)).2 : Nat)), pcM D (fnd 1 2 t.2.2.toNat 29), ((t.2.2.toNat : Int) - ((stF 1 2 (fnd 1 2 t.2.2.toNat 29)).1 : Int), ((stF 1 2 (fnd 1 2 t.2.2.toNat 29)).2 : Nat))]) := by
          show pcTM L D t = _; unfold pcTM; rw [if_neg (by simp [hB])]
        have hy : t.2.1 = ((t.2.1.toNat : Nat) : Int) := by omega
        have hz : t.2.2 = ((t.2.2.toNat : Nat) : Int) := by omega
        have hyN : 3 ≤ t.2.1.toNat ∧ t.2.1.toNat ≤ 60 := by omega
        have hzN : 1 ≤ t.2.2.toNat ∧ t.2.2.toNat ≤ 250 := by omega
        have Eok1 := hide (stF_long t.2.1.toNat hyN.1 hyN.2)
        have Eok2 := hide (stF_back t.2.2.toNat hzN.1 hzN.2)
        have Sy1 := hide (long_sym t.2.1.toNat hyN.1 hyN.2)
        have Sy2 := hide (back_sym t.2.2.toNat hzN.1 hzN.2)
        have hl1 := fnd_le 3 4 t.2.1.toNat 27
        have hl2 := fnd_le 1 2 t.2.2.toNat 29
        have At1 := hide (longB_at (fnd 3 4 t.2.1.toNat 27) (by omega))
        have At2 := hide (backB_at (fnd 1 2 t.2.2.toNat 29) (by omega))
        have Bt1 := hide (longL_at (fnd 3 4 t.2.1.toNat 27) (by omega))
        have Bt2 := hide (backL_at (fnd 1 2 t.2.2.toNat 29) (by omega))
        generalize stF 3 4 (fnd 3 4 t.2.1.toNat 27) = E at *
        generalize stF 1 2 (fnd 1 2 t.2.2.toNat 29) = E' at *
        generalize fnd 3 4 t.2.1.toNat 27 = f at *
        generalize fnd 1 2 t.2.2.toNat 29 = f' at *
        clear hB hK hokk hfit
        obtain ⟨tx, ty, tz⟩ := t
        simp only at hx0 y0 y1 z0 z1 hy hz hyN hzN c0 c1 c2 HR1 HK1 HO1 HB1 HPc Eok1 Eok2 Sy1 Sy2 HPE
        generalize ty.toNat = y at *
        generalize tz.toNat = z at *
        subst hx0 hy hz
        have hfI : (f : Int) < 28 := by omega
        have hfI' : (f' : Int) < 30 := by omega
        have hf28 : Hid (f < 28) := by show f < 28; omega
        have hf30 : Hid (f' < 30) := by show f' < 30; omega
        have hE1 := pOk_true.1 (unhide Eok1)
        have hE2 := pOk_true.1 (unhide Eok2)
        have e1a : 0 ≤ (y : Int) - (E.1 : Int) := hE1.2.1
        have e2a : 0 ≤ (z : Int) - (E'.1 : Int) := hE2.2.1
        have yI : (y : Int) ≤ 60 := by omega
        have zI : (z : Int) ≤ 250 := by omega
        have y3 : ¬ (y : Int) = 0 := by omega
        have hwr1 := wrap_id ((y : Int) - (E.1 : Int)) (by omega) (by omega)
        have hwr2 := wrap_id ((z : Int) - (E'.1 : Int)) (by omega) (by omega)
        clear hE1 hE2 hl1 hl2 hyN hzN
        obtain ⟨gl, ol, rfl, hgl, hcl⟩ := irow_cell (unhide HR1).2.2.1.1 (by rw [longB_len]; exact unhide hf28)
        obtain ⟨gk, ok, rfl, hgk, hck⟩ := irow_cell (unhide HR1).2.2.1.2 (by rw [backB_len]; exact unhide hf30)
        have HLs := hide (fun W (hR : NRow W b (some ⟨gl, ol, none⟩) longB) => l5Sym_any (some ⟨gl, ol, none⟩) c4 28 longB (y : Int) W longB_len hR.1 (by omega) (by omega))
        have HKs := hide (fun W (hR : NRow W b (some ⟨gk, ok, none⟩) backB) => l5Sym_any (some ⟨gk, ok, none⟩) c6 30 backB (z : Int) W backB_len hR.1 (by omega) (by omega))
        rw [unhide Sy1] at HLs
        rw [unhide Sy2] at HKs
        have hne : Hid (wr.heap.size ≠ b) := by show _ ≠ _; have := unhide hbr; omega
        clear hcl hck hgl hgk
        go_wp2_with fail
        refine (unhide HLs _ (unhide HR1).2.2.1.1).mono ?_
        rintro e w7 ⟨rfl, hw7⟩
        rw [hw7]
        clear hw7
        have eI : (257 : Int) + (f : Int) = ((257 + f : Nat) : Int) := by omega
        have HSy := hide (sym_any b P a (some ⟨g1, 0, none⟩) cap n n (257 + f) L _ (unhide HO1) (unhide Hn) (unhide HR1).1.1.1 (unhide HR1).2.1.1.1 (unhide hf2).1 (unhide Hn3) ((unhide HgL) _ (by rw [unhide Hn]; exact (unhide hf2).1)).1 ((unhide HgL) _ (by rw [unhide Hn]; exact (unhide hf2).1)).2 (by have := unhide Hbits; omega))
        rw [← eI] at HSy
        clear eI
        go_wp2_with fail
        refine (unhide HSy).mono ?_
        rintro e x7 ⟨rfl, h7, k7⟩
        have HO7 := hide h7
        have HR7 := hide ((unhide HR1).keep k7.2)
        have HK7 := hide ((unhide HK1).trans k7)
        have HB7 := hide (blk_keep k7.2 (unhide HB1) (unhide hne) (by decide))
        have Hp7 : Hid ((outP P [pcM L (257 + f)]).2 ≤ 80100) := by
          show _ ≤ _
          have h1 := outP_bits P [pcM L (257 + f)] (fun x hx => by simp only [List.mem_cons, List.not_mem_nil, or_false] at hx; subst hx; have := ((unhide HgL) (257 + f) (by rw [unhide Hn]; exact (unhide hf2).1)).1.2; show L.getD _ 0 ≤ 16; omega)
          have h2 := unhide Hbits
          simp only [List.length_cons, List.length_nil] at h1
          omega
        have HS7 : Hid (∀ W, Keep5 b x7 W → W.cell? ⟨wr.heap.size, 1, none⟩ = some (.int .i64 (y : Nat)) ∧ W.cell? ⟨gl, ol + f, none⟩ = some (.int .i64 (E.1 : Nat))) := by
          intro W hW
          refine ⟨blk_cell (blk_keep hW (unhide HB7) (unhide hne) (by decide)) 1, ?_⟩
          obtain ⟨g', o', e', _, hcc⟩ := irow_cell ((unhide HR7).2.2.1.1.keep hW) (k := f) (by rw [longB_len]; exact unhide hf28)
          simp only [Option.some.injEq, Addr.mk.injEq, and_true] at e'
          obtain ⟨rfl, rfl⟩ := e'
          rw [unhide At1] at hcc
          exact hcc
        have HPT := hide (fun W (hW : OutQ W b (outP P [pcM L (257 + f)])) => putP_any b (outP P [pcM L (257 + f)]) ((y : Int) - (E.1 : Int)) (E.2 : Nat) W hW (unhide Eok1) (by have := unhide Hp7; omega))
        clear h7 k7 HSy HO1 HR1 HK1 HB1
        go_wp2_with fail
        have hD7 : Below x7.heap.size x7 x7.drew := (Below.refl _ x7).drew
        go_cut [] (fun wx => OutQ wx b (outP (outP P [pcM L (257 + f)]) [((y : Int) - (E.1 : Int), (E.2 : Nat))]) ∧ KB b x7 wx)
        case first =>
          refine wp_region_held_drew (S := fun W => W.cell? ⟨wr.heap.size, 1, none⟩ = some (.int .i64 (y : Nat)) ∧ W.cell? ⟨gl, ol + f, none⟩ = some (.int .i64 (E.1 : Nat))) hmix (unhide HS7 _ (keep_below hD7)) (fun hS => ?_)
          refine wpAnyH_take (i := 0) (v := .pointer (some ⟨b, 0, none⟩)) rfl (by kernel_rfl) (by kernel_rfl) (by kernel_rfl) (fun _ _ _ h => h) (Or.inl ⟨by rfl, ?_⟩) hS ?_
          · intro W hSw
            obtain ⟨s0, s1⟩ := hSw
            go_simp
          refine wpAnyH_take (i := 1) (v := .pointer (some ⟨wr.heap.size, 1, none⟩)) rfl (by kernel_rfl) (by kernel_rfl) (by kernel_rfl) (fun _ _ _ h => h) (Or.inl ⟨by rfl, ?_⟩) hS ?_
          · intro W hSw
            obtain ⟨s0, s1⟩ := hSw
            go_simp
          refine wpAnyH_take (i := 2) (v := .int .i64 (y : Nat)) rfl (by kernel_rfl) (by kernel_rfl) (by kernel_rfl) (fun _ _ _ h => h) (Or.inl ⟨by rfl, ?_⟩) hS ?_
          · intro W hSw
            obtain ⟨s0, s1⟩ := hSw
            go_simp
          refine wpAnyH_take (i := 3) (v := .slice (some ⟨gl, ol, none⟩) 28 c4) rfl (by kernel_rfl) (by kernel_rfl) (by kernel_rfl) (fun _ _ _ h => h) (Or.inl ⟨by rfl, ?_⟩) hS ?_
          · intro W hSw
            obtain ⟨s0, s1⟩ := hSw
            go_simp
          refine wpAnyH_take (i := 4) (v := .int .i64 (f : Nat)) rfl (by kernel_rfl) (by kernel_rfl) (by kernel_rfl) (fun _ _ _ h => h) (Or.inl ⟨by rfl, ?_⟩) hS ?_
          · intro W hSw
            obtain ⟨s0, s1⟩ := hSw
            go_simp
          refine wpAnyH_take (i := 5) (v := .pointer (some ⟨gl, ol + f, none⟩)) rfl (by kernel_rfl) (by kernel_rfl) (by kernel_rfl) (fun _ _ _ h => h) (Or.inl ⟨by rfl, ?_⟩) hS ?_
          · intro W hSw
            obtain ⟨s0, s1⟩ := hSw
            go_simp
          refine wpAnyH_take (i := 6) (v := .int .i64 (E.1 : Nat)) rfl (by kernel_rfl) (by kernel_rfl) (by kernel_rfl) (fun _ _ _ h => h) (Or.inl ⟨by rfl, ?_⟩) hS ?_
          · intro W hSw
            obtain ⟨s0, s1⟩ := hSw
            go_simp
          refine wpAnyH_take (i := 7) (v := .int .i64 ((y : Int) - (E.1 : Int))) rfl (by kernel_rfl) (by kernel_rfl) (by kernel_rfl) (fun _ _ _ h => h) (Or.inl ⟨by rfl, ?_⟩) hS ?_
          · intro W hSw
            obtain ⟨s0, s1⟩ := hSw
            go_simp
          refine wpAnyH_take (i := 9) (v := .int .i64 (f : Nat)) rfl (by kernel_rfl) (by kernel_rfl) (by kernel_rfl) (fun _ _ _ h => h) (Or.inl ⟨by rfl, ?_⟩) hS ?_
          · intro W hSw
            obtain ⟨s0, s1⟩ := hSw
            go_simp
          refine wpAnyH_ready (rs := [8]) (by kernel_rfl) (by simp) ?_
          refine AllReadyH.cons rfl (fun Kk hKk => ?_) AllReadyH.nil
          go_simp
          go_at_call 98
          refine (longBits_v _).mono ?_
          rintro e x8 ⟨⟨g8, rfl, o8⟩, b8⟩
          have hb8 : Below x7.heap.size x7 x8 := bnext hD7 b8
          have hc8 := (o8.at rfl (unhide hf28)).1
          rw [unhide Bt1] at hc8
          have HO8 := hide (Out.kept (unhide HO7) hb8)
          clear o8 b8
          refine Shut.out hKk _ _ (unhide HS7 _ (keep_below hb8)) (fun hS2 => ?_)
          clear hKk Kk
          refine wpAnyH_ready (rs := [10]) (by kernel_rfl) (by simp) ?_
          refine AllReadyH.cons rfl (fun Kk hKk => ?_) AllReadyH.nil
          go_simp
          refine Shut.out hKk _ _ (unhide HS7 _ (keep_below hb8)) (fun _ => ?_)
          clear hKk Kk
          refine wpAnyH_ready (rs := [11]) (by kernel_rfl) (by simp) ?_
          refine AllReadyH.cons rfl (fun Kk hKk => ?_) AllReadyH.nil
          go_simp
          refine Shut.out hKk _ _ (unhide HS7 _ (keep_below hb8)) (fun _ => ?_)
          clear hKk Kk
          refine wpAnyH_ready (rs := [12]) (by kernel_rfl) (by simp) ?_
          refine AllReadyH.cons rfl (fun Kk hKk => ?_) AllReadyH.nil
          go_simp
          go_at_call 70
          refine (unhide HPT _ (unhide HO8)).mono ?_
          rintro e x9 ⟨rfl, h9, k9⟩
          have HX9 := hide (And.intro h9 (((KB.refl b x7).below hb8 (Nat.le_of_lt (Out.lt (unhide HO7)))).trans k9))
          refine Shut.out hKk _ _ (unhide HS7 _ ((keep_below hb8).trans k9.2)) (fun _ => ?_)
          clear hKk Kk h9 k9
          refine wpAnyH_done (by kernel_rfl) ?_ _
          go_wp2_with fail
          go_meet
          case rel => exact unhide HX9
        case rest =>
          obtain ⟨ho9, hk9⟩ := hcut
          have HO9 := hide ho9
          have HR9 := hide ((unhide HR7).keep hk9.2)
          have HK9 := hide ((unhide HK7).trans hk9)
          have HB9 := hide (blk_keep hk9.2 (unhide HB7) (unhide hne) (by decide))
          have Hp9 : Hid ((outP (outP P [pcM L (257 + f)]) [((y : Int) - (E.1 : Int), ((E.2 : Nat) : Int))]).2 ≤ 80200) := by
            show _ ≤ _
            have h1 := outP_bits (outP P [pcM L (257 + f)]) [((y : Int) - (E.1 : Int), ((E.2 : Nat) : Int))] (fun x hx => by simp only [List.mem_cons, List.not_mem_nil, or_false] at hx; subst hx; exact (pOk_true.1 (unhide Eok1)).1.2)
            have h2 := unhide Hp7
            simp only [List.length_cons, List.length_nil] at h1
            omega
          have HE : Hid (∀ r, outP P (pcM L (257 + f) :: ((y : Int) - (E.1 : Int), ((E.2 : Nat) : Int)) :: r) = outP (outP (outP P [pcM L (257 + f)]) [((y : Int) - (E.1 : Int), ((E.2 : Nat) : Int))]) r) := fun r => by
            show outP P _ = _
            rw [← outP_append, ← outP_append]; rfl
          generalize outP (outP P [pcM L (257 + f)]) [((y : Int) - (E.1 : Int), ((E.2 : Nat) : Int))] = P2 at *
          have hc2b := blk_cell (unhide HB9) 2
          simp at hc2b
          clear ho9 hk9 HO7 HR7 HK7 HB7 HS7 HPT hD7
          go_wp2_with fail
          refine (unhide HKs _ (unhide HR9).2.2.1.2).mono ?_
          rintro e w7 ⟨rfl, hw7⟩
          rw [hw7]
          clear hw7
          have HSy := hide (sym_any b P2 a2 (some ⟨g2, 0, none⟩) cap2 n2 n2 f' D _ (unhide HO9) (unhide Hn2) (unhide HR9).1.2.1 (unhide HR9).2.1.2.1 (unhide hf2).2 (unhide Hn4) ((unhide HgD) _ (by rw [unhide Hn2]; exact (unhide hf2).2)).1 ((unhide HgD) _ (by rw [unhide Hn2]; exact (unhide hf2).2)).2 (by have := unhide Hp9; omega))
          go_wp2_with fail
          refine (unhide HSy).mono ?_
          rintro e xa ⟨rfl, ha, ka⟩
          have HOa := hide ha
          have HRa := hide ((unhide HR9).keep ka.2)
          have HKa := hide ((unhide HK9).trans ka)
          have HBa := hide (blk_keep ka.2 (unhide HB9) (unhide hne) (by decide))
          have Hpa : Hid ((outP P2 [pcM D f']).2 ≤ 80300) := by
            show _ ≤ _
            have h1 := outP_bits P2 [pcM D f'] (fun x hx => by simp only [List.mem_cons, List.not_mem_nil, or_false] at hx; subst hx; have := ((unhide HgD) f' (by rw [unhide Hn2]; exact (unhide hf2).2)).1.2; show D.getD _ 0 ≤ 16; omega)
            have h2 := unhide Hp9
            simp only [List.length_cons, List.length_nil] at h1
            omega
          have HSa : Hid (∀ W, Keep5 b xa W → W.cell? ⟨wr.heap.size, 2, none⟩ = some (.int .i64 (z : Nat)) ∧ W.cell? ⟨gk, ok + f', none⟩ = some (.int .i64 (E'.1 : Nat))) := by
            intro W hW
            refine ⟨blk_cell (blk_keep hW (unhide HBa) (unhide hne) (by decide)) 2, ?_⟩
            obtain ⟨g', o', e', _, hcc⟩ := irow_cell ((unhide HRa).2.2.1.2.keep hW) (k := f') (by rw [backB_len]; exact unhide hf30)
            simp only [Option.some.injEq, Addr.mk.injEq, and_true] at e'
            obtain ⟨rfl, rfl⟩ := e'
            rw [unhide At2] at hcc
            exact hcc
          have HPTa := hide (fun W (hW : OutQ W b (outP P2 [pcM D f'])) => putP_any b (outP P2 [pcM D f']) ((z : Int) - (E'.1 : Int)) (E'.2 : Nat) W hW (unhide Eok2) (by have := unhide Hpa; omega))
          have HFin : Hid (outP (outP P2 [pcM D f']) [((z : Int) - (E'.1 : Int), ((E'.2 : Nat) : Int))] = outP P2 [pcM D f', ((z : Int) - (E'.1 : Int), ((E'.2 : Nat) : Int))]) := (outP_append P2 [pcM D f'] _).symm
          clear ha ka HSy HO9 HR9 HK9 HB9 hc2b
          go_wp2_with fail
          have hDa : Below xa.heap.size xa xa.drew := (Below.refl _ xa).drew
          refine wp_region_held_drew (S := fun W => W.cell? ⟨wr.heap.size, 2, none⟩ = some (.int .i64 (z : Nat)) ∧ W.cell? ⟨gk, ok + f', none⟩ = some (.int .i64 (E'.1 : Nat))) hmix (unhide HSa _ (keep_below hDa)) (fun hS => ?_)
          refine wpAnyH_take (i := 0) (v := .pointer (some ⟨b, 0, none⟩)) rfl (by kernel_rfl) (by kernel_rfl) (by kernel_rfl) (fun _ _ _ h => h) (Or.inl ⟨by rfl, ?_⟩) hS ?_
          · intro W hSw
            obtain ⟨s0, s1⟩ := hSw
            go_simp
          refine wpAnyH_take (i := 1) (v := .pointer (some ⟨wr.heap.size, 2, none⟩)) rfl (by kernel_rfl) (by kernel_rfl) (by kernel_rfl) (fun _ _ _ h => h) (Or.inl ⟨by rfl, ?_⟩) hS ?_
          · intro W hSw
            obtain ⟨s0, s1⟩ := hSw
            go_simp
          refine wpAnyH_take (i := 2) (v := .int .i64 (z : Nat)) rfl (by kernel_rfl) (by kernel_rfl) (by kernel_rfl) (fun _ _ _ h => h) (Or.inl ⟨by rfl, ?_⟩) hS ?_
          · intro W hSw
            obtain ⟨s0, s1⟩ := hSw
            go_simp
          refine wpAnyH_take (i := 3) (v := .slice (some ⟨gk, ok, none⟩) 30 c6) rfl (by kernel_rfl) (by kernel_rfl) (by kernel_rfl) (fun _ _ _ h => h) (Or.inl ⟨by rfl, ?_⟩) hS ?_
          · intro W hSw
            obtain ⟨s0, s1⟩ := hSw
            go_simp
          refine wpAnyH_take (i := 4) (v := .int .i64 (f' : Nat)) rfl (by kernel_rfl) (by kernel_rfl) (by kernel_rfl) (fun _ _ _ h => h) (Or.inl ⟨by rfl, ?_⟩) hS ?_
          · intro W hSw
            obtain ⟨s0, s1⟩ := hSw
            go_simp
          refine wpAnyH_take (i := 5) (v := .pointer (some ⟨gk, ok + f', none⟩)) rfl (by kernel_rfl) (by kernel_rfl) (by kernel_rfl) (fun _ _ _ h => h) (Or.inl ⟨by rfl, ?_⟩) hS ?_
          · intro W hSw
            obtain ⟨s0, s1⟩ := hSw
            go_simp
          refine wpAnyH_take (i := 6) (v := .int .i64 (E'.1 : Nat)) rfl (by kernel_rfl) (by kernel_rfl) (by kernel_rfl) (fun _ _ _ h => h) (Or.inl ⟨by rfl, ?_⟩) hS ?_
          · intro W hSw
            obtain ⟨s0, s1⟩ := hSw
            go_simp
          refine wpAnyH_take (i := 7) (v := .int .i64 ((z : Int) - (E'.1 : Int))) rfl (by kernel_rfl) (by kernel_rfl) (by kernel_rfl) (fun _ _ _ h => h) (Or.inl ⟨by rfl, ?_⟩) hS ?_
          · intro W hSw
            obtain ⟨s0, s1⟩ := hSw
            go_simp
          refine wpAnyH_take (i := 9) (v := .int .i64 (f' : Nat)) rfl (by kernel_rfl) (by kernel_rfl) (by kernel_rfl) (fun _ _ _ h => h) (Or.inl ⟨by rfl, ?_⟩) hS ?_
          · intro W hSw
            obtain ⟨s0, s1⟩ := hSw
            go_simp
          refine wpAnyH_ready (rs := [8]) (by kernel_rfl) (by simp) ?_
          refine AllReadyH.cons rfl (fun Kk hKk => ?_) AllReadyH.nil
          go_simp
          go_at_call 99
          refine (backBits_v _).mono ?_
          rintro e x8 ⟨⟨g8, rfl, o8⟩, b8⟩
          have hb8 : Below xa.heap.size xa x8 := bnext hDa b8
          have hc8 := (o8.at rfl (unhide hf30)).1
          rw [unhide Bt2] at hc8
          have HO8 := hide (Out.kept (unhide HOa) hb8)
          clear o8 b8
          refine Shut.out hKk _ _ (unhide HSa _ (keep_below hb8)) (fun hS2 => ?_)
          clear hKk Kk
          refine wpAnyH_ready (rs := [10]) (by kernel_rfl) (by simp) ?_
          refine AllReadyH.cons rfl (fun Kk hKk => ?_) AllReadyH.nil
          go_simp
          refine Shut.out hKk _ _ (unhide HSa _ (keep_below hb8)) (fun _ => ?_)
          clear hKk Kk
          refine wpAnyH_ready (rs := [11]) (by kernel_rfl) (by simp) ?_
          refine AllReadyH.cons rfl (fun Kk hKk => ?_) AllReadyH.nil
          go_simp
          refine Shut.out hKk _ _ (unhide HSa _ (keep_below hb8)) (fun _ => ?_)
          clear hKk Kk
          refine wpAnyH_ready (rs := [12]) (by kernel_rfl) (by simp) ?_
          refine AllReadyH.cons rfl (fun Kk hKk => ?_) AllReadyH.nil
          go_simp
          go_at_call 70
          refine (unhide HPTa _ (unhide HO8)).mono ?_
          rintro e x9 ⟨rfl, h9, k9⟩
          have HX9 := hide (And.intro h9 (((KB.refl b xa).below hb8 (Nat.le_of_lt (Out.lt (unhide HOa)))).trans k9))
          refine Shut.out hKk _ _ (unhide HSa _ ((keep_below hb8).trans k9.2)) (fun _ => ?_)
          clear hKk Kk h9 k9
          refine wpAnyH_done (by kernel_rfl) ?_ _
          have HX := hide (And.intro (unhide HX9).1 (And.intro ((unhide HRa).keep (unhide HX9).2.2) ((unhide HKa).trans (unhide HX9).2)))
          clear HX9
          go_wp2
          go_roundw
          case rel => exact ⟨k + 1, by omega, by go_num, by rw [unhide HPE, unhide HPc, unhide HE, ← unhide HFin]; exact (unhide HX).1, (unhide HX).2.1, (unhide HX).2.2⟩
          case measure => simp [intOf]; omega
      · obtain ⟨q1, q2⟩ := isB_bd hB
        have hfB : Hid (t.1.toNat < n) := by
          have := hfit
          unfold fitsT at this
          rw [if_pos hB, unhide Hn] at this
          exact this
        have HPc : Hid (pcTM L D t = [pcM L t.1.toNat]) := by show pcTM L D t = _; unfold pcTM; rw [if_pos hB]
        have hz0 : t.2.1 = 0 := by unfold isB at hB; simp only [Bool.and_eq_true, decide_eq_true_eq] at hB; exact hB.1
        have hx : t.1 = ((t.1.toNat : Nat) : Int) := by omega
        have HSy := hide (sym_any b P a (some ⟨g1, 0, none⟩) cap n n t.1.toNat L _ (unhide HO1) (unhide Hn) (unhide HR1).1.1.1 (unhide HR1).2.1.1.1 (unhide hfB) (unhide Hn3) ((unhide HgL) _ (by rw [unhide Hn]; exact unhide hfB)).1 ((unhide HgL) _ (by rw [unhide Hn]; exact unhide hfB)).2 (by have := unhide Hbits; omega))
        rw [← hx] at HSy
        generalize t.1.toNat = xN at *
        clear hB hokk hfit hx
        obtain ⟨tx, ty, tz⟩ := t
        simp only at hz0 q1 q2 c0 c1 c2 HSy HR1 HK1
        subst hz0
        go_wp2_with fail
        refine (unhide HSy).mono ?_
        rintro e x7 ⟨rfl, h7, k7⟩
        have HX := hide (And.intro h7 (And.intro ((unhide HR1).keep k7.2) ((unhide HK1).trans k7)))
        clear h7 k7 HSy
        go_wp2
        go_roundw
        case rel => exact ⟨k + 1, by omega, by go_num, by rw [unhide HPE, unhide HPc]; exact (unhide HX).1, (unhide HX).2.1, (unhide HX).2.2⟩
        case measure => simp [intOf]; omega
    · obtain rfl : k = tn := by have := unhide HK; omega
      have HPE : Hid (outP p (T.flatMap (pcTM L D) ++ [pcM L 256]) = outP (outP p ((T.take k).flatMap (pcTM L D))) [pcM L 256]) := by
        show outP p _ = _
        rw [List.take_of_length_le (by rw [unhide Htn]; exact Nat.le_refl _), outP_append]
      have Hbits : Hid ((outP p ((T.take k).flatMap (pcTM L D))).2 ≤ 80000) := by
        show _ ≤ _
        have h1 := flatM_bits L D (T.take k) p (unhide HgL) (unhide HgD) (fun t ht => (unhide Hok t (List.mem_of_mem_take ht)).2)
        have h2 : (T.take k).length ≤ k := List.length_take_le _ _
        have h3 := unhide Hp
        omega
      generalize outP p ((T.take k).flatMap (pcTM L D)) = P at *
      have HSy := hide (sym_any b P a (some ⟨g1, 0, none⟩) cap n n 256 L _ (unhide HO) (unhide Hn) (unhide HRR).1.1.1 (unhide HRR).2.1.1.1 (unhide H256) (unhide Hn3) ((unhide HgL) _ (by rw [unhide Hn]; exact unhide H256)).1 ((unhide HgL) _ (by rw [unhide Hn]; exact unhide H256)).2 (by have := unhide Hbits; omega))
      go_wp2_with fail
      refine (unhide HSy).mono ?_
      rintro e x7 ⟨rfl, h7, k7⟩
      have HX := hide (And.intro h7 ((unhide HKB).trans k7))
      clear h7 k7 HSy
      go_wp2
      go_end0
      exact ⟨rfl, by rw [unhide HPE]; exact (unhide HX).1, (unhide HX).2⟩
end Go.Proofs.YtpmidjddjdejmaaGreatDoor
namespace Go.Proofs.YtpmidjddjdejmaaGreatDoor
open Go.RowKit Corb
theorem code_ok {l : List Int} (h : lensOk l = true) {k : Nat} (hk : k < l.length) : pOk ((outN l 15).2.getD k 0) (l.getD k 0) = true := by
  have hb := inL_bd (lensOk_in h) hk
  rw [codes_get h hk]
  by_cases h1 : 1 ≤ l.getD k 0
  · rw [if_pos h1]
    have := (codeAt_lt h hk h1).1
    exact pOk_true.2 ⟨⟨hb.1, by omega⟩, by omega, by omega⟩
  · rw [if_neg h1]
    have e : l.getD k 0 = 0 := by omega
    rw [e]
    decide
theorem good_of {l : List Int} (h : lensOk l = true) : goodL l := by
  intro k hk
  have hb := inL_bd (lensOk_in h) hk
  obtain ⟨_, c0, c1⟩ := pOk_true.1 (code_ok h hk)
  refine ⟨hb, c0, ?_⟩
  have h1 : p2 (l.getD k 0).toNat ≤ p2 15 := Nat.pow_le_pow_right (by omega) (by omega)
  have h2 : p2 15 = 32768 := by decide
  omega
theorem pcTM_ok {L D : List Int} (gL : goodL L) (gD : goodL D) {t : Tk} (hk : okT t = true) (hf : fitsT L D t) : allOk (pcTM L D t) = true := by
  unfold pcTM
  unfold fitsT at hf
  unfold allOk
  split
  · rename_i h
    rw [if_pos h] at hf
    simp only [List.all_cons, List.all_nil, Bool.and_true]
    exact pcM_ok (gL _ hf).1
  · rename_i h
    rw [if_neg h] at hf
    have hK : isK t = true := by unfold okT at hk; simp only [Bool.or_eq_true] at hk; rcases hk with h' | h'; exact absurd h' h; exact h'
    obtain ⟨y0, y1, z0, z1⟩ := isK_bd hK
    simp only [List.all_cons, List.all_nil, Bool.and_true, Bool.and_eq_true]
    exact ⟨pcM_ok (gL _ hf.1).1, stF_long _ (by omega) (by omega), pcM_ok (gD _ hf.2).1, stF_back _ (by omega) (by omega)⟩
theorem flatM_ok {L D : List Int} (gL : goodL L) (gD : goodL D) (T : List Tk) (h : ∀ t ∈ T, okT t = true ∧ fitsT L D t) : allOk (T.flatMap (pcTM L D)) = true ∧ (T.flatMap (pcTM L D)).length ≤ 4 * T.length := by
  induction T with
  | nil => exact ⟨rfl, by simp⟩
  | cons t r ih =>
    obtain ⟨h1, h2⟩ := ih (fun x hx => h x (by simp [hx]))
    obtain ⟨h3, h4⟩ := h t (by simp)
    have h5 := (pcTM_bits L D t gL gD h4).2
    refine ⟨?_, by simp only [List.flatMap_cons, List.length_append, List.length_cons]; omega⟩
    have h6 := pcTM_ok gL gD h3 h4
    unfold allOk at *
    rw [List.flatMap_cons, List.all_append, h6, h1]; rfl
theorem toksP_okT (L : List UInt8) : ∀ n p, L.length - p ≤ n → ∀ t ∈ toksP L p, okT t = true := by
  intro n
  induction n with
  | zero =>
    intro p hp t ht
    rw [toksP_end (by omega)] at ht
    cases ht
  | succ n ih =>
    intro p hp t ht
    by_cases h : p < L.length
    · rw [toksP_step h] at ht
      rcases List.mem_cons.1 ht with rfl | ht
      · exact tokP_ok L p
      · exact ih (p + sizP L p) (by have := (sizP_pos L p).1; omega) t ht
    · rw [toksP_end h] at ht
      cases ht
theorem toks_ok (s : ByteArray) : ∀ t ∈ toksP s.data.toList 0, okT t = true := toksP_okT s.data.toList s.data.toList.length 0 (by omega)
def knowD : List Int := List.replicate 32 5
theorem know_okL : lensOk (fixL 288) = true := by decide +kernel
theorem know_okD : lensOk knowD = true := by decide +kernel
theorem know_fits {t : Tk} (_ : okT t = true) : fitsT (fixL 288) knowD t := by
  unfold fitsT
  split
  · rename_i hB
    have := isB_bd hB
    rw [fixL_len]; omega
  · have h1 := fnd_le 3 4 t.2.1.toNat 27
    have h2 := fnd_le 1 2 t.2.2.toNat 29
    rw [fixL_len]
    exact ⟨by omega, by show _ < (List.replicate 32 (5 : Int)).length; rw [List.length_replicate]; omega⟩
def fixP (s : ByteArray) : List (Int × Int) := [(1, 1), (1, 2)] ++ ((toksP s.data.toList 0).flatMap (pcTM (fixL 288) knowD) ++ [pcM (fixL 288) 256])
theorem toks_len (s : ByteArray) (hs : s.size ≤ 300) : (toksP s.data.toList 0).length ≤ 300 := by
  have h2 := toksP_len s.data.toList s.data.toList.length 0 (by omega)
  have h3 : s.data.toList.length = s.size := by simp
  omega
theorem fixP_ok (s : ByteArray) (hs : s.size ≤ 300) : lOk (fixP s) = true := by
  obtain ⟨h1, h2⟩ := flatM_ok (good_of know_okL) (good_of know_okD) (toksP s.data.toList 0) (fun t ht => ⟨toks_ok s t ht, know_fits (toks_ok s t ht)⟩)
  have h3 := toks_len s hs
  have h4 : pOk (pcM (fixL 288) 256).1 (pcM (fixL 288) 256).2 = true := pcM_ok (good_of know_okL 256 (by rw [fixL_len]; omega)).1
  unfold lOk
  have h5 : allOk (fixP s) = true := by
    unfold fixP
    unfold allOk at *
    rw [List.all_append, List.all_append, h1]
    simp only [List.all_cons, List.all_nil, h4]
    decide
  have h6 : (fixP s).length ≤ 4000 := by unfold fixP; simp only [List.length_append, List.length_cons, List.length_nil]; omega
  rw [h5]; simpa using h6
def knownL (s : ByteArray) : List UInt8 := textP (fixP s)
set_option maxHeartbeats 1600000 in
theorem l5Known_any (s : ByteArray) (w : World) (hs : s.size ≤ 300) :
    Calls Tryz.prog 40 #[.string s] w fun e w' => e = .returned (.string ⟨(knownL s).toArray⟩) ∧ Below w.heap.size w w' := by
  have h0 : Hid (OutQ (w.alloc (.cells #[.slice none 0 0, .int .i64 0, .int .i64 0] 110)) w.heap.size (0, 0)) := out_new w 110
  have hB0 : Hid (KB w.heap.size w (w.alloc (.cells #[.slice none 0 0, .int .i64 0, .int .i64 0] 110))) := (KB.refl _ _).below ((Below.refl _ _).alloc (Nat.le_refl _) _) (Nat.le_refl _)
  have HS := hide hs
  have HV : Hid (outP (outP (outP (0, 0) [(1, 1)]) [(1, 2)]) ((toksP s.data.toList 0).flatMap (pcTM (fixL 288) knowD) ++ [pcM (fixL 288) 256]) = valP (fixP s)) := by
    show outP _ _ = _
    rw [← outP_append, ← outP_append]; rfl
  have Hm : Hid ((valP (fixP s)).2 ≤ 90000) := by
    show _ ≤ _
    rw [← unhide HV, outP_append]
    have h1 := flatM_bits (fixL 288) knowD (toksP s.data.toList 0) (outP (outP (0, 0) [(1, 1)]) [(1, 2)]) (good_of know_okL) (good_of know_okD) (fun t ht => know_fits (toks_ok s t ht))
    have h2 := outP_bits (outP (outP (outP (0, 0) [(1, 1)]) [(1, 2)]) ((toksP s.data.toList 0).flatMap (pcTM (fixL 288) knowD))) [pcM (fixL 288) 256] (fun x hx => by simp only [List.mem_cons, List.not_mem_nil, or_false] at hx; subst hx; have := (good_of know_okL 256 (by rw [fixL_len]; omega)).1.2; show (fixL 288).getD 256 0 ≤ 16; omega)
    have h3 := toks_len s hs
    have h4 : (outP (outP (0, 0) [(1, 1)]) [(1, 2)]).2 = 3 := rfl
    simp only [List.length_cons, List.length_nil] at h2
    omega
  clear hs
  go_enter Tryz.func40, Tryz.ntmps40
  go_wp2_with fail
  refine (putP_any _ _ 1 1 _ (unhide h0) (by decide) (by show (0 : Nat) ≤ _; omega)).mono ?_
  rintro e x1 ⟨rfl, o1, k1⟩
  have H1 := hide (And.intro o1 ((unhide hB0).trans k1))
  clear o1 k1 h0 hB0
  go_wp2_with fail
  refine (putP_any _ _ 1 2 _ (unhide H1).1 (by decide) (by show (1 : Nat) ≤ _; omega)).mono ?_
  rintro e x2 ⟨rfl, o2, k2⟩
  have H2 := hide (And.intro o2 ((unhide H1).2.trans k2))
  have hl2 : Hid (w.heap.size < x2.heap.size) := Out.lt o2
  clear o2 k2 H1
  go_wp2_with fail
  refine (l4Tokens_any s _ (by have := unhide HS; omega)).mono ?_
  rintro e x3 ⟨v3, rfl, o3, b3⟩
  obtain ⟨tn, htn⟩ : ∃ tn, (toksP s.data.toList 0).length = tn := ⟨_, rfl⟩
  obtain ⟨a3, c3, rfl⟩ := o3.formN htn
  have N3 := hide (kown_nrow htn o3 (unhide hl2))
  have B3 := hide b3
  clear o3 b3
  go_wp2_with fail
  refine (l5Fixed_any _).mono ?_
  rintro e x4 ⟨v4, rfl, o4, b4⟩
  obtain ⟨a4, c4, rfl⟩ := o4.formN (fixL_len 288)
  have N4 := hide (iown_nrow (fixL_len 288) o4 (Nat.lt_of_lt_of_le (unhide hl2) (unhide B3).size))
  have N3' := hide ((unhide N3).keep (keep_below b4))
  have B4 := hide (bnext (unhide B3) b4)
  clear o4 b4 N3 B3
  go_wp2_with fail
  refine (l5Fives_any _).mono ?_
  rintro e x5 ⟨v5, rfl, o5, b5⟩
  have hn5 : (List.replicate 32 (5 : Int)).length = 32 := List.length_replicate
  obtain ⟨a5, c5, rfl⟩ := o5.formN hn5
  have N5 := hide (iown_nrow hn5 o5 (Nat.lt_of_lt_of_le (unhide hl2) (unhide B4).size))
  have N3 := hide ((unhide N3').keep (keep_below b5))
  have N4' := hide ((unhide N4).below b5)
  have B5 := hide (bnext (unhide B4) b5)
  have O5 := hide (Out.kept (unhide H2).1 (unhide B5))
  have K5 := hide ((unhide H2).2.below (unhide B5) (Nat.le_of_lt (unhide hl2)))
  have htI : Hid ((tn : Int) ≤ 300) := by show (tn : Int) ≤ 300; have := toks_len s (unhide HS); omega
  have HTk := hide (tokensM_any w.heap.size (outP (outP (0, 0) [(1, 1)]) [(1, 2)]) a3 a4 a5 c3 tn c4 288 c5 32 (toksP s.data.toList 0) (fixL 288) knowD x5 (unhide O5) (unhide N3) (unhide N4') (unhide N5) htn (fixL_len 288) hn5 (by omega) (by omega) (good_of know_okL) (good_of know_okD) (by omega) (unhide htI) (by show (3 : Nat) ≤ 10000; omega) (fun t ht => ⟨toks_ok s t ht, know_fits (toks_ok s t ht)⟩))
  rw [unhide HV] at HTk
  clear o5 b5 N3' N4 N5 B4 hn5 htn
  go_wp2_with fail
  refine (unhide HTk).mono ?_
  rintro e x6 ⟨rfl, o6, k6⟩
  have K6 := hide ((unhide K5).trans k6).1
  have O6 := hide o6
  clear o6 k6 HTk N3 N4' O5 K5 B5 H2
  go_wp2_with fail
  refine (wholeOut_any _ _ _ _ (unhide O6) (unhide Hm)).mono ?_
  rintro e x7 ⟨rfl, h7, b7⟩
  obtain ⟨_, v, T, Y⟩ := h7
  have e8 : 8 * (((valP (fixP s)).2 + 7) / 8) / 8 = ((valP (fixP s)).2 + 7) / 8 := by omega
  rw [e8] at Y
  have Y' : Bys x7 w.heap.size v (knownL s) := Y
  have hcv := conv_bytes Y'
  have HB := hide ((unhide K6).trans b7)
  obtain ⟨k0, k1, k2, f0, f1, f2, hbw⟩ := T
  clear Y Y' e8 k1 k2 b7 O6
  generalize hR : knownL s = R at *
  have HR := hide hR
  clear hR
  go_wp2
  go_ret
  exact ⟨by rw [unhide HR]; rfl, unhide HB⟩
end Go.Proofs.YtpmidjddjdejmaaGreatDoor
namespace Go.Proofs.YtpmidjddjdejmaaGreatDoor
open Go.RowKit Corb
def inc (o : List Int) (k : Nat) : List Int := o.set k (o.getD k 0 + 1)
def incs (o : List Int) (s : List Nat) : List Int := s.foldl inc o
theorem inc_len (o : List Int) (k : Nat) : (inc o k).length = o.length := by simp [inc]
theorem incs_len (o : List Int) (s : List Nat) : (incs o s).length = o.length := by
  induction s generalizing o with
  | nil => rfl
  | cons x s ih => show (incs (inc o x) s).length = _; rw [ih, inc_len]
theorem incs_snoc (o : List Int) (s : List Nat) (x : Nat) : incs o (s ++ [x]) = inc (incs o s) x := by simp [incs]
theorem inc_get (o : List Int) (k j : Nat) : (inc o k).getD j 0 = o.getD j 0 + (if j = k ∧ k < o.length then 1 else 0) := by
  unfold inc
  simp only [List.getD_eq_getElem?_getD, List.getElem?_set]
  by_cases h : k = j
  · subst h
    by_cases hk : k < o.length
    · simp [hk]
    · simp [hk]
  · have : ¬ j = k := fun e => h e.symm
    simp [h, this]
theorem incs_get (o : List Int) (s : List Nat) (j : Nat) : (incs o s).getD j 0 = o.getD j 0 + (if j < o.length then (s.count j : Int) else 0) := by
  induction s generalizing o with
  | nil => simp [incs]
  | cons x s ih =>
    show (incs (inc o x) s).getD j 0 = _
    rw [ih, inc_get, inc_len, List.count_cons]
    by_cases h : j = x
    · subst h
      by_cases hk : j < o.length
      · simp [hk]; omega
      · simp [hk]
    · have : (x == j) = false := by simp; exact fun e => h e.symm
      simp [h, this]
theorem list_same {a b : List Int} (hl : a.length = b.length) (h : ∀ j, j < a.length → a.getD j 0 = b.getD j 0) : a = b := by
  apply List.ext_getElem hl
  intro i h1 h2
  have := h i h1
  simpa [List.getD, h1, h2] using this
theorem zeros_get (n j : Nat) : (List.replicate n (0 : Int)).getD j 0 = 0 := by
  by_cases h : j < n <;> simp [List.getD, h]
theorem us_pos {l : List Int} {k : Nat} (hk : k < l.length) (h : 0 < l.getD k 0) : 1 ≤ us l := by
  induction l generalizing k with
  | nil => simp at hk
  | cons b l ih =>
    simp only [us, List.map_cons, List.sum_cons] at ih ⊢
    cases k with
    | zero => have : 0 < b := by simpa using h
              rw [if_pos this]; omega
    | succ k => have := ih (k := k) (by simpa using hk) (by simpa using h); omega
theorem us_zero {l : List Int} (h : us l = 0) (k : Nat) (hk : k < l.length) : ¬ 0 < l.getD k 0 := fun hp => by have := us_pos hk hp; omega
def litS (t : Tk) : Nat := if isB t then t.1.toNat else 257 + fnd 3 4 t.2.1.toNat 27
def distS (t : Tk) : List Nat := if isB t then [] else [fnd 1 2 t.2.2.toNat 29]
theorem litS_lt {t : Tk} (_ : okT t = true) : litS t < 286 := by
  unfold litS
  split
  · rename_i hB; have := isB_bd hB; omega
  · have := fnd_le 3 4 t.2.1.toNat 27; omega
theorem distS_lt {t : Tk} : ∀ x ∈ distS t, x < 30 := by
  unfold distS
  intro x hx
  split at hx
  · simp at hx
  · have := fnd_le 1 2 t.2.2.toNat 29
    simp at hx; omega
def litC (T : List Tk) : List Int := inc (incs (List.replicate 286 0) (T.map litS)) 256
def distB (T : List Tk) : List Int := incs (List.replicate 30 0) (T.flatMap distS)
def distC (T : List Tk) : List Int := if us (distB T) = 0 then inc (distB T) 0 else distB T
theorem litC_len (T : List Tk) : (litC T).length = 286 := by unfold litC; rw [inc_len, incs_len, List.length_replicate]
theorem distB_len (T : List Tk) : (distB T).length = 30 := by unfold distB; rw [incs_len, List.length_replicate]
theorem distC_len (T : List Tk) : (distC T).length = 30 := by unfold distC; split; rw [inc_len, distB_len]; exact distB_len T
theorem litC_get (T : List Tk) (j : Nat) (hj : j < 286) : (litC T).getD j 0 = ((T.map litS).count j : Int) + (if j = 256 then 1 else 0) := by
  unfold litC
  rw [inc_get, incs_get, incs_len, List.length_replicate, zeros_get, if_pos hj]
  by_cases h : j = 256 <;> simp [h]
theorem distB_get (T : List Tk) (j : Nat) (hj : j < 30) : (distB T).getD j 0 = ((T.flatMap distS).count j : Int) := by
  unfold distB
  rw [incs_get, List.length_replicate, zeros_get, if_pos hj]; simp
theorem litC_other (T : List Tk) : incs (inc (List.replicate 286 0) 256) (T.map litS) = litC T := by
  apply list_same
  · rw [incs_len, inc_len, litC_len, List.length_replicate]
  · intro j hj
    rw [incs_len, inc_len, List.length_replicate] at hj
    rw [litC_get T j hj, incs_get, inc_get, inc_len, List.length_replicate, zeros_get, if_pos hj]
    by_cases h : j = 256 <;> simp [h]; omega
theorem flat_len (T : List Tk) : (T.flatMap distS).length ≤ T.length := by
  induction T with
  | nil => simp
  | cons t r ih =>
    have : (distS t).length ≤ 1 := by unfold distS; split <;> simp
    simp only [List.flatMap_cons, List.length_append, List.length_cons]; omega
theorem litC_ok (T : List Tk) (hT : T.length ≤ 300) : okC (litC T) := by
  intro i hi
  rw [litC_len] at hi
  rw [litC_get T i hi]
  have h1 : (T.map litS).count i ≤ (T.map litS).length := List.count_le_length
  rw [List.length_map] at h1
  split <;> omega
theorem distB_ok (T : List Tk) (hT : T.length ≤ 300) : ∀ i, i < 30 → 0 ≤ (distB T).getD i 0 ∧ (distB T).getD i 0 ≤ 300 := by
  intro i hi
  rw [distB_get T i hi]
  have h1 : (T.flatMap distS).count i ≤ (T.flatMap distS).length := List.count_le_length
  have h2 := flat_len T
  omega
theorem distC_ok (T : List Tk) (hT : T.length ≤ 300) : okC (distC T) := by
  intro i hi
  rw [distC_len] at hi
  have := distB_ok T hT i hi
  unfold distC
  split
  · rw [inc_get]; split <;> omega
  · omega
theorem litC_us (T : List Tk) : 1 ≤ us (litC T) ∧ us (litC T) ≤ 286 := by
  refine ⟨us_pos (k := 256) (by rw [litC_len]; omega) ?_, by have := us_le (litC T); rw [litC_len] at this; exact this⟩
  rw [litC_get T 256 (by omega), if_pos rfl]
  omega
theorem distC_us (T : List Tk) : 1 ≤ us (distC T) ∧ us (distC T) ≤ 30 := by
  refine ⟨?_, by have := us_le (distC T); rw [distC_len] at this; exact this⟩
  unfold distC
  split
  · rename_i h
    refine us_pos (k := 0) (by rw [inc_len, distB_len]; omega) ?_
    rw [inc_get, distB_get T 0 (by omega), distB_len, if_pos (by omega)]
    omega
  · omega
theorem distC_sub (T : List Tk) (j : Nat) (h : 0 < (distB T).getD j 0) : 0 < (distC T).getD j 0 := by
  unfold distC
  split
  · rw [inc_get]; split <;> omega
  · exact h
def cutN (l : List Int) (least : Nat) : Nat → Nat
  | 0 => 0
  | n + 1 => if least < n + 1 ∧ l.getD n 0 = 0 then cutN l least n else n + 1
def cutL (l : List Int) (least : Nat) : List Int := l.take (cutN l least l.length)
theorem cutN_step {l : List Int} {least n : Nat} (h : least < n + 1 ∧ l.getD n 0 = 0) : cutN l least (n + 1) = cutN l least n := by simp only [cutN]; rw [if_pos h]
theorem cutN_stop {l : List Int} {least n : Nat} (h : ¬ (least < n ∧ l.getD (n - 1) 0 = 0)) : cutN l least n = n := by
  cases n with
  | zero => rfl
  | succ n => rw [Nat.add_sub_cancel] at h; simp only [cutN]; rw [if_neg h]
theorem cutN_le (l : List Int) (least n : Nat) : cutN l least n ≤ n := by
  induction n with
  | zero => exact Nat.le_refl _
  | succ n ih => simp only [cutN]; split <;> omega
theorem cutN_least (l : List Int) (least n : Nat) (h : least ≤ n) : least ≤ cutN l least n := by
  induction n with
  | zero => exact h
  | succ n ih => simp only [cutN]; split
                 · exact ih (by omega)
                 · exact h
theorem cutN_zero (l : List Int) (least n j : Nat) (h1 : cutN l least n ≤ j) (h2 : j < n) : l.getD j 0 = 0 := by
  induction n with
  | zero => omega
  | succ n ih =>
    by_cases hc : least < n + 1 ∧ l.getD n 0 = 0
    · rw [cutN_step hc] at h1
      by_cases e : j = n
      · subst e; exact hc.2
      · exact ih h1 (by omega)
    · simp only [cutN] at h1; rw [if_neg hc] at h1; omega
theorem cutL_len (l : List Int) (least : Nat) : (cutL l least).length = cutN l least l.length := by
  unfold cutL; rw [List.length_take]; have := cutN_le l least l.length; omega
theorem take_get (l : List Int) (c j : Nat) (h : j < c) : (l.take c).getD j 0 = l.getD j 0 := by
  simp [List.getD, h]
theorem cutL_get (l : List Int) (least j : Nat) (h : j < l.length) : (cutL l least).getD j 0 = l.getD j 0 := by
  by_cases hc : j < cutN l least l.length
  · exact take_get l _ j hc
  · rw [cutN_zero l least l.length j (by omega) h]
    have : (cutL l least).length ≤ j := by rw [cutL_len]; omega
    simp [List.getD, this]
theorem zero_sums {l : List Int} (h : ∀ x ∈ l, x = 0) : kr l = 0 ∧ us l = 0 := by
  induction l with
  | nil => exact ⟨rfl, rfl⟩
  | cons b l ih =>
    obtain ⟨h1, h2⟩ := ih (fun x hx => h x (by simp [hx]))
    have hb : b = 0 := h b (by simp)
    subst hb
    simp only [kr, us, List.map_cons, List.sum_cons] at h1 h2 ⊢
    rw [h1, h2]; exact ⟨rfl, rfl⟩
theorem cut_sums (l : List Int) (least : Nat) : kr (cutL l least) = kr l ∧ us (cutL l least) = us l := by
  have h : ∀ x ∈ l.drop (cutN l least l.length), x = 0 := by
    intro x hx
    obtain ⟨i, hi, rfl⟩ := List.mem_iff_getElem.1 hx
    rw [List.getElem_drop]
    rw [List.length_drop] at hi
    have := cutN_zero l least l.length (cutN l least l.length + i) (by omega) (by omega)
    have hlt : cutN l least l.length + i < l.length := by omega
    simpa [List.getD, hlt] using this
  obtain ⟨h1, h2⟩ := zero_sums h
  have e : l = cutL l least ++ l.drop (cutN l least l.length) := (List.take_append_drop _ _).symm
  have k1 : kr l = kr (cutL l least) + kr (l.drop (cutN l least l.length)) := by
    conv => lhs; rw [e]
    simp [kr]
  have k2 : us l = us (cutL l least) + us (l.drop (cutN l least l.length)) := by
    conv => lhs; rw [e]
    simp [us]
  omega
theorem lensOk_cut {l : List Int} (least : Nat) (h : lensOk l = true) : lensOk (cutL l least) = true := by
  obtain ⟨h1, h2⟩ := cut_sums l least
  unfold lensOk wholeL at h ⊢
  rw [h1, h2]
  simp only [Bool.and_eq_true, decide_eq_true_eq] at h ⊢
  obtain ⟨⟨ha, hb⟩, hc⟩ := h
  refine ⟨⟨?_, by rw [cutL_len]; have := cutN_le l least l.length; omega⟩, hc⟩
  unfold inL at ha ⊢
  rw [List.all_eq_true] at ha ⊢
  intro x hx
  exact ha x (List.mem_of_mem_take hx)
def ownL (T : List Tk) : List Int := cutL (fitL 15 (litC T)) 257
def ownD (T : List Tk) : List Int := cutL (fitL 15 (distC T)) 1
theorem p2_14 : p2 14 = 16384 := by decide
theorem p2_6 : p2 6 = 64 := by decide
theorem litF (T : List Tk) (hT : T.length ≤ 300) : (fitL 15 (litC T)).length = 286 ∧ lensOk (fitL 15 (litC T)) = true ∧ ∀ i, i < 286 → 0 ≤ (fitL 15 (litC T)).getD i 0 ∧ (fitL 15 (litC T)).getD i 0 ≤ 15 ∧ (0 < (fitL 15 (litC T)).getD i 0 ↔ 0 < (litC T).getD i 0) := by
  have h1 := litC_us T
  have h := lens_law (m := 14) (litC_ok T hT) (by rw [litC_len]; omega) (by rw [seed_usL]; omega) (by rw [seed_usL]; have h2 := p2_14; omega) (by omega)
  rw [litC_len] at h
  exact h
theorem distF (T : List Tk) (hT : T.length ≤ 300) : (fitL 15 (distC T)).length = 30 ∧ lensOk (fitL 15 (distC T)) = true ∧ ∀ i, i < 30 → 0 ≤ (fitL 15 (distC T)).getD i 0 ∧ (fitL 15 (distC T)).getD i 0 ≤ 15 ∧ (0 < (fitL 15 (distC T)).getD i 0 ↔ 0 < (distC T).getD i 0) := by
  have h1 := distC_us T
  have h := lens_law (m := 14) (distC_ok T hT) (by rw [distC_len]; omega) (by rw [seed_usL]; omega) (by rw [seed_usL]; have h2 := p2_14; omega) (by omega)
  rw [distC_len] at h
  exact h
theorem ownL_len (T : List Tk) (hT : T.length ≤ 300) : 257 ≤ (ownL T).length ∧ (ownL T).length ≤ 286 := by
  obtain ⟨h1, _, _⟩ := litF T hT
  unfold ownL
  rw [cutL_len, h1]
  exact ⟨cutN_least _ _ _ (by omega), cutN_le _ _ _⟩
theorem ownD_len (T : List Tk) (hT : T.length ≤ 300) : 1 ≤ (ownD T).length ∧ (ownD T).length ≤ 30 := by
  obtain ⟨h1, _, _⟩ := distF T hT
  unfold ownD
  rw [cutL_len, h1]
  exact ⟨cutN_least _ _ _ (by omega), cutN_le _ _ _⟩
theorem ownL_ok (T : List Tk) (hT : T.length ≤ 300) : lensOk (ownL T) = true := lensOk_cut 257 (litF T hT).2.1
theorem ownD_ok (T : List Tk) (hT : T.length ≤ 300) : lensOk (ownD T) = true := lensOk_cut 1 (distF T hT).2.1
theorem get_lt {l : List Int} {j : Nat} (h : 0 < l.getD j 0) : j < l.length := by
  rcases Nat.lt_or_ge j l.length with h' | h'
  · exact h'
  · simp [List.getD, h'] at h
theorem ownL_has (T : List Tk) (hT : T.length ≤ 300) (k : Nat) (hk : k = 256 ∨ k ∈ T.map litS) (h286 : k < 286) : 0 < (ownL T).getD k 0 := by
  obtain ⟨h1, _, h3⟩ := litF T hT
  unfold ownL
  rw [cutL_get _ _ _ (by omega)]
  refine (h3 k h286).2.2.2 ?_
  rw [litC_get T k h286]
  rcases hk with rfl | hk
  · rw [if_pos rfl]; omega
  · have := List.count_pos_iff.2 hk
    split <;> omega
theorem ownD_has (T : List Tk) (hT : T.length ≤ 300) (k : Nat) (hk : k ∈ T.flatMap distS) (h30 : k < 30) : 0 < (ownD T).getD k 0 := by
  obtain ⟨h1, _, h3⟩ := distF T hT
  unfold ownD
  rw [cutL_get _ _ _ (by omega)]
  refine (h3 k h30).2.2.2 (distC_sub T k ?_)
  rw [distB_get T k h30]
  have := List.count_pos_iff.2 hk
  omega
theorem own_has (T : List Tk) (hT : T.length ≤ 300) (hok : ∀ t ∈ T, okT t = true) (t : Tk) (ht : t ∈ T) : 0 < (ownL T).getD (litS t) 0 ∧ ∀ k ∈ distS t, 0 < (ownD T).getD k 0 := by
  refine ⟨ownL_has T hT _ (.inr (List.mem_map_of_mem ht)) (litS_lt (hok t ht)), fun k hk => ownD_has T hT k ?_ (distS_lt k hk)⟩
  exact List.mem_flatMap.2 ⟨t, ht, hk⟩
theorem own_fits (T : List Tk) (hT : T.length ≤ 300) (hok : ∀ t ∈ T, okT t = true) (t : Tk) (ht : t ∈ T) : fitsT (ownL T) (ownD T) t := by
  obtain ⟨h1, h2⟩ := own_has T hT hok t ht
  unfold fitsT
  unfold litS at h1
  unfold distS at h2
  split
  · rename_i h
    rw [if_pos h] at h1
    exact get_lt h1
  · rename_i h
    rw [if_neg h] at h1 h2
    exact ⟨get_lt h1, get_lt (h2 _ (by simp))⟩
def cnt7 (A : List Int) : List Int := incs (List.replicate 19 0) (A.map Int.toNat)
def lens7 (A : List Int) : List Int := fitL 7 (cnt7 A)
theorem cnt7_len (A : List Int) : (cnt7 A).length = 19 := by unfold cnt7; rw [incs_len, List.length_replicate]
theorem cnt7_get (A : List Int) (j : Nat) (hj : j < 19) : (cnt7 A).getD j 0 = ((A.map Int.toNat).count j : Int) := by
  unfold cnt7
  rw [incs_get, List.length_replicate, zeros_get, if_pos hj]; simp
theorem cnt7_ok (A : List Int) (hA : A.length ≤ 400) : okC (cnt7 A) := by
  intro i hi
  rw [cnt7_len] at hi
  rw [cnt7_get A i hi]
  have h1 : (A.map Int.toNat).count i ≤ (A.map Int.toNat).length := List.count_le_length
  rw [List.length_map] at h1
  omega
theorem cnt7_us (A : List Int) (h0 : 0 < A.length) (hA : ∀ x ∈ A, 0 ≤ x ∧ x ≤ 15) : 1 ≤ us (cnt7 A) ∧ us (cnt7 A) ≤ 19 := by
  refine ⟨?_, by have := us_le (cnt7 A); rw [cnt7_len] at this; exact this⟩
  have h1 := hA A[0] (List.getElem_mem h0)
  refine us_pos (k := (A[0]).toNat) (by rw [cnt7_len]; omega) ?_
  rw [cnt7_get A _ (by omega)]
  have := List.count_pos_iff.2 (List.mem_map_of_mem (f := Int.toNat) (List.getElem_mem h0))
  omega
theorem lens7F (A : List Int) (h0 : 0 < A.length) (h4 : A.length ≤ 400) (hA : ∀ x ∈ A, 0 ≤ x ∧ x ≤ 15) : (lens7 A).length = 19 ∧ lensOk (lens7 A) = true ∧ ∀ i, i < 19 → 0 ≤ (lens7 A).getD i 0 ∧ (lens7 A).getD i 0 ≤ 7 ∧ (0 < (lens7 A).getD i 0 ↔ 0 < (cnt7 A).getD i 0) := by
  have h1 := cnt7_us A h0 hA
  have h := lens_law (m := 6) (cnt7_ok A h4) (by rw [cnt7_len]; omega) (by rw [seed_usL]; omega) (by rw [seed_usL]; have h2 := p2_6; omega) (by omega)
  rw [cnt7_len] at h
  exact h
def toldP (L D : List Int) : List (Int × Int) :=
  [((L.length : Int) - 257, 5), ((D.length : Int) - 1, 5), (15, 4)] ++ (ordL.map (fun i => ((lens7 (L ++ D)).getD i 0, (3 : Int))) ++ (L ++ D).map (fun x => pcM (lens7 (L ++ D)) x.toNat))
def ownP (T : List Tk) : List (Int × Int) := [(1, 1), (2, 2)] ++ (toldP (ownL T) (ownD T) ++ (T.flatMap (pcTM (ownL T) (ownD T)) ++ [pcM (ownL T) 256]))
theorem lens_bd {l : List Int} (h : lensOk l = true) : ∀ x ∈ l, 0 ≤ x ∧ x ≤ 15 := by
  intro x hx
  obtain ⟨i, hi, rfl⟩ := List.mem_iff_getElem.1 hx
  have := inL_bd (lensOk_in h) hi
  simpa [List.getD, hi] using this
theorem toldP_ok {L D : List Int} (hL : lensOk L = true) (hD : lensOk D = true) (l0 : 257 ≤ L.length) (l1 : L.length ≤ 286) (d0 : 1 ≤ D.length) (d1 : D.length ≤ 30) : allOk (toldP L D) = true ∧ (toldP L D).length ≤ 338 := by
  have hA : ∀ x ∈ L ++ D, 0 ≤ x ∧ x ≤ 15 := by
    intro x hx
    rcases List.mem_append.1 hx with h | h
    · exact lens_bd hL x h
    · exact lens_bd hD x h
  obtain ⟨h1, h2, h3⟩ := lens7F (L ++ D) (by rw [List.length_append]; omega) (by rw [List.length_append]; omega) hA
  refine ⟨?_, ?_⟩
  · unfold toldP allOk
    rw [List.all_append, List.all_append]
    simp only [Bool.and_eq_true]
    refine ⟨?_, ?_, ?_⟩
    · simp only [List.all_cons, List.all_nil, Bool.and_true, Bool.and_eq_true]
      refine ⟨pOk_true.2 ⟨by omega, by omega, ?_⟩, pOk_true.2 ⟨by omega, by omega, ?_⟩, by decide⟩
      · have : p2 (5 : Int).toNat = 32 := by decide
        rw [this]; omega
      · have : p2 (5 : Int).toNat = 32 := by decide
        rw [this]; omega
    · rw [List.all_eq_true]
      intro x hx
      obtain ⟨i, hi, rfl⟩ := List.mem_map.1 hx
      have hi19 : i < 19 := by
        have : ∀ i ∈ ordL, i < 19 := by decide
        exact this i hi
      have := h3 i hi19
      refine pOk_true.2 ⟨by omega, this.1, ?_⟩
      have : p2 (3 : Int).toNat = 8 := by decide
      rw [this]; omega
    · rw [List.all_eq_true]
      intro x hx
      obtain ⟨y, hy, rfl⟩ := List.mem_map.1 hx
      have hy2 := hA y hy
      exact pcM_ok (inL_bd (lensOk_in h2) (by rw [h1]; omega))
  · unfold toldP
    simp only [List.length_append, List.length_map, List.length_cons, List.length_nil]
    have : ordL.length = 19 := rfl
    omega
theorem ownP_ok (T : List Tk) (hT : T.length ≤ 300) (hok : ∀ t ∈ T, okT t = true) : lOk (ownP T) = true := by
  have gL := good_of (ownL_ok T hT)
  have gD := good_of (ownD_ok T hT)
  obtain ⟨l0, l1⟩ := ownL_len T hT
  obtain ⟨d0, d1⟩ := ownD_len T hT
  obtain ⟨h1, h2⟩ := flatM_ok gL gD T (fun t ht => ⟨hok t ht, own_fits T hT hok t ht⟩)
  obtain ⟨t1, t2⟩ := toldP_ok (ownL_ok T hT) (ownD_ok T hT) l0 l1 d0 d1
  have h4 : pOk (pcM (ownL T) 256).1 (pcM (ownL T) 256).2 = true := pcM_ok (gL 256 (by omega)).1
  unfold lOk
  have h5 : allOk (ownP T) = true := by
    unfold ownP
    unfold allOk at *
    rw [List.all_append, List.all_append, List.all_append, h1, t1]
    simp only [List.all_cons, List.all_nil, h4]
    decide
  have h6 : (ownP T).length ≤ 4000 := by unfold ownP; simp only [List.length_append, List.length_cons, List.length_nil]; omega
  rw [h5]; simpa using h6
def ownT (s : ByteArray) : List UInt8 := textP (ownP (toksP s.data.toList 0))
end Go.Proofs.YtpmidjddjdejmaaGreatDoor
namespace Go.Proofs.YtpmidjddjdejmaaGreatDoor
open Go.RowKit Corb
set_option maxHeartbeats 1600000 in
theorem l5Last_any (g o : Nat) (cap n least : Nat) (l : List Int) (w : World) (hn : l.length = n) (h : ∀ i, i < n → w.cell? ⟨g, o + i, none⟩ = some (.int .i64 (l.getD i 0))) (hc : n ≤ cap) (hm : n ≤ 300) (hl : least ≤ n) :
    Calls Tryz.prog 68 #[.slice (some ⟨g, o, none⟩) n cap, .int .i64 (least : Nat)] w fun e w' => e = .returned (.slice (some ⟨g, o, none⟩) (cutN l least n) cap) ∧ w' = w := by
  have hcI : (n : Int) ≤ (cap : Int) := by omega
  have hmI : (n : Int) ≤ 300 := by omega
  have hlI : (least : Int) ≤ (n : Int) := by omega
  have H := hide h
  have HN := hide hn
  clear h hn hc hm hl
  go_enter Tryz.func68, Tryz.ntmps68
  go_wp2
  go_loop [5] (fun x => ∃ k : Nat, k ≤ n ∧ x = .int .i64 k ∧ cutN l least n = cutN l least k) (fun x => (intOf x).toNat)
  case atStart => exact ⟨n, Nat.le_refl _, rfl, rfl⟩
  case round =>
    obtain ⟨k, hk, rfl, hcut⟩ := hrel
    have HC := hide hcut
    have HK := hide hk
    have hkI : (k : Int) ≤ (n : Int) := by omega
    clear hcut hk
    by_cases hlt : least < k
    · have hltI : decide ((least : Int) < (k : Int)) = true := decide_eq_true (by omega)
      have hltI' : (least : Int) < (k : Int) := by omega
      obtain ⟨j, hj⟩ : ∃ j, k = j + 1 := ⟨k - 1, by omega⟩
      subst hj
      have hc0 := unhide H j (by have := unhide HK; omega)
      have hs := hide (fun h => cutN_step (l := l) (least := least) (n := j) h)
      have hp := hide (fun h => cutN_stop (l := l) (least := least) (n := j + 1) h)
      have hjI : ((j + 1 : Nat) : Int) - 1 = (j : Int) := by omega
      have hjn : (j : Int) < (n : Int) := by omega
      generalize hy : l.getD j 0 = y at *
      have HY := hide hy
      clear hy
      by_cases hz : y = 0
      · subst hz
        have HC2 : Hid (cutN l least n = cutN l least j) := (unhide HC).trans (unhide hs ⟨hlt, rfl⟩)
        have HJ : Hid (j ≤ n) := by show j ≤ n; have := unhide HK; omega
        clear hlt
        go_wp2
        go_round
        case rel => exact ⟨j, unhide HJ, by go_num, unhide HC2⟩
        case measure => simp [intOf]
      · have hzb : (y == 0) = false := by simpa using hz
        have HC2 : Hid (cutN l least n = j + 1) := (unhide HC).trans (unhide hp (by rw [Nat.add_sub_cancel, unhide HY]; exact fun h => hz h.2))
        have h0 : (0 : Int) ≤ ((j + 1 : Nat) : Int) := by omega
        clear hlt
        go_wp2
        go_ret
        exact ⟨by rw [unhide HC2]; rfl, rfl⟩
    · have hltI : decide ((least : Int) < (k : Int)) = false := decide_eq_false (by omega)
      have hltI' : ¬ (least : Int) < (k : Int) := by omega
      have HC2 : Hid (cutN l least n = k) := (unhide HC).trans (cutN_stop (fun h => hlt h.1))
      clear hlt
      go_wp2
      go_ret
      exact ⟨by rw [unhide HC2]; rfl, rfl⟩
end Go.Proofs.YtpmidjddjdejmaaGreatDoor
namespace Go.Proofs.YtpmidjddjdejmaaGreatDoor
open Go.RowKit Go.Shelf Corb
attribute [local go_sem] Oper.semAt_some
theorem grown_below {W W' : World} (h : W.grownBy W' none) : Below W.heap.size W W' := (Below.refl _ _).grown h (Nat.le_refl _) (fun j hj => by cases hj)
theorem incs_bd (n : Nat) (l : List Nat) (k : Nat) : 0 ≤ (incs (List.replicate n 0) l).getD k 0 ∧ (incs (List.replicate n 0) l).getD k 0 ≤ (l.length : Int) := by
  rw [incs_get, zeros_get]
  have : l.count k ≤ l.length := List.count_le_length
  split <;> omega
end Go.Proofs.YtpmidjddjdejmaaGreatDoor
namespace Go.Proofs.YtpmidjddjdejmaaGreatDoor
open Go.RowKit Corb
theorem IOwn.cut {w : World} {base n m cap : Nat} {a : Option Addr} {l : List Int} (hn : l.length = n) (h : IOwn w base (.slice a n cap) l) (hm : m ≤ n) (h0 : 0 < n) : IOwn w base (.slice a m cap) (l.take m) := by
  subst hn
  rcases h.2 with ⟨_, e⟩ | ⟨g, cap', cur, e, hb, hg, h1, h2, h3, h4⟩
  · omega
  · simp only [Value.slice.injEq] at e
    obtain ⟨rfl, _, rfl⟩ := e
    refine ⟨by simp, .inr ⟨g, cap, cur, by rw [List.length_take]; congr 1; omega, hb, hg, by rw [List.length_take]; omega, h2, h3, ?_⟩⟩
    rw [List.length_take, List.map_take, ← h4, List.take_take]
    congr 1
    omega
theorem IOwn.cap {w : World} {base n cap g : Nat} {l : List Int} (h : IOwn w base (.slice (some ⟨g, 0, none⟩) n cap) l) : n ≤ cap ∧ cap ≤ maxLen := by
  rcases h.2 with ⟨e, _⟩ | ⟨g', cap', cur, e, hb, hg, h1, h2, h3, h4⟩
  · cases e
  · simp only [Value.slice.injEq] at e
    obtain ⟨_, rfl, rfl⟩ := e
    exact ⟨h1, h2⟩
def listB (L D : List Int) : List (Int × Int) := [((L.length : Int) - 257, 5), ((D.length : Int) - 1, 5), (15, 4)]
def ordP (l : List Int) (k : Nat) : List (Int × Int) := (ordL.take k).map fun i => (l.getD i 0, (3 : Int))
theorem ordP_succ (l : List Int) (k : Nat) (h : k < 19) : ordP l (k + 1) = ordP l k ++ [(l.getD (ordL.getD k 0) 0, 3)] := by
  unfold ordP
  have hk : k < ordL.length := h
  rw [List.take_succ_eq_append_getElem hk, List.map_append]
  simp [List.getD, hk]
theorem ordP_len (l : List Int) (k : Nat) (h : k ≤ 19) : (ordP l k).length = k := by unfold ordP; have : ordL.length = 19 := rfl; simp; omega
end Go.Proofs.YtpmidjddjdejmaaGreatDoor
namespace Go.Proofs.YtpmidjddjdejmaaGreatDoor
open Go.RowKit Corb
def litM (T : List Tk) (k : Nat) : List Int := incs (inc (List.replicate 286 0) 256) ((T.take k).map litS)
def distM (T : List Tk) (k : Nat) : List Int := incs (List.replicate 30 0) ((T.take k).flatMap distS)
theorem litM_len (T : List Tk) (k : Nat) : (litM T k).length = 286 := by unfold litM; rw [incs_len, inc_len, List.length_replicate]
theorem distM_len (T : List Tk) (k : Nat) : (distM T k).length = 30 := by unfold distM; rw [incs_len, List.length_replicate]
theorem takeK_snoc (T : List Tk) (k : Nat) (h : k < T.length) : T.take (k + 1) = T.take k ++ [T.getD k k0] := by
  rw [List.take_succ_eq_append_getElem h]
  congr 1
  simp [List.getD, h]
theorem litM_succ (T : List Tk) (k : Nat) (h : k < T.length) : litM T (k + 1) = inc (litM T k) (litS (T.getD k k0)) := by
  unfold litM
  rw [takeK_snoc T k h, List.map_append, List.map_singleton, incs_snoc]
theorem litM_zero (T : List Tk) : litM T 0 = (List.replicate 286 (0 : Int)).set 256 1 := by
  unfold litM inc
  rw [List.take_zero, zeros_get]; rfl
theorem distM_B (T : List Tk) (k : Nat) (h : k < T.length) (hb : isB (T.getD k k0) = true) : distM T (k + 1) = distM T k := by
  unfold distM
  rw [takeK_snoc T k h, List.flatMap_append]
  have : [T.getD k k0].flatMap distS = [] := by simp only [List.flatMap_cons, List.flatMap_nil, List.append_nil]; unfold distS; rw [if_pos hb]
  rw [this, List.append_nil]
theorem distM_K (T : List Tk) (k : Nat) (h : k < T.length) (hb : isB (T.getD k k0) = false) : distM T (k + 1) = inc (distM T k) (fnd 1 2 (T.getD k k0).2.2.toNat 29) := by
  unfold distM
  rw [takeK_snoc T k h, List.flatMap_append]
  have : [T.getD k k0].flatMap distS = [fnd 1 2 (T.getD k k0).2.2.toNat 29] := by simp only [List.flatMap_cons, List.flatMap_nil, List.append_nil]; unfold distS; rw [if_neg (by rw [hb]; exact Bool.false_ne_true)]
  rw [this, incs_snoc]
theorem litM_bd (T : List Tk) (k j : Nat) (hk : k ≤ 300) : 0 ≤ (litM T k).getD j 0 ∧ (litM T k).getD j 0 ≤ 301 := by
  unfold litM
  rw [incs_get, inc_get, zeros_get]
  have : ((T.take k).map litS).count j ≤ ((T.take k).map litS).length := List.count_le_length
  rw [List.length_map, List.length_take] at this
  split <;> split <;> omega
theorem distM_bd (T : List Tk) (k j : Nat) (hk : k ≤ 300) : 0 ≤ (distM T k).getD j 0 ∧ (distM T k).getD j 0 ≤ 300 := by
  have h1 := incs_bd 30 ((T.take k).flatMap distS) j
  have h2 := flat_len (T.take k)
  rw [List.length_take] at h2
  unfold distM
  omega
theorem isB_zero {t : Tk} (h : isB t = true) : t.2.1 = 0 := by unfold isB at h; simp only [Bool.and_eq_true, decide_eq_true_eq] at h; exact h.1
def CntM (w W : World) (B gl gd g4 c4 g6 c6 : Nat) (A D : List Int) : Prop :=
  (IOwn W w.heap.size (.slice (some ⟨gl, 0, none⟩) 286 286) A ∧ IOwn W w.heap.size (.slice (some ⟨gd, 0, none⟩) 30 30) D) ∧ (IOwn W B (.slice (some ⟨g4, 0, none⟩) 28 c4) longB ∧ IOwn W B (.slice (some ⟨g6, 0, none⟩) 30 c6) backB) ∧ Below w.heap.size w W ∧ gl ≠ gd ∧ gl < B ∧ gd < B
theorem CntM.drew {w W : World} {B gl gd g4 c4 g6 c6 : Nat} {A D : List Int} (h : CntM w W B gl gd g4 c4 g6 c6 A D) : CntM w W.drew B gl gd g4 c4 g6 c6 A D := ⟨h.1, h.2.1, h.2.2.1.drew, h.2.2.2⟩
theorem CntM.putL {w W : World} {B gl gd g4 c4 g6 c6 : Nat} {A D : List Int} (h : CntM w W B gl gd g4 c4 g6 c6 A D) (hA : A.length = 286) (j : Nat) (x : Int) : CntM w (W.setCell ⟨gl, j, none⟩ (.int .i64 x)) B gl gd g4 c4 g6 c6 (A.set j x) D := by
  obtain ⟨⟨h1, h2⟩, ⟨h3, h4⟩, h5, h6, h7, h8⟩ := h
  have e3 := h3.below.1
  have e4 := h4.below.1
  exact ⟨⟨h1.put hA x, h2.setOther h6 _⟩, ⟨h3.setOther (by omega) _, h4.setOther (by omega) _⟩, below_set h5 h1.below.1 _, h6, h7, h8⟩
theorem CntM.putD {w W : World} {B gl gd g4 c4 g6 c6 : Nat} {A D : List Int} (h : CntM w W B gl gd g4 c4 g6 c6 A D) (hD : D.length = 30) (j : Nat) (x : Int) : CntM w (W.setCell ⟨gd, j, none⟩ (.int .i64 x)) B gl gd g4 c4 g6 c6 A (D.set j x) := by
  obtain ⟨⟨h1, h2⟩, ⟨h3, h4⟩, h5, h6, h7, h8⟩ := h
  have e3 := h3.below.1
  have e4 := h4.below.1
  exact ⟨⟨h1.setOther h6.symm _, h2.put hD x⟩, ⟨h3.setOther (by omega) _, h4.setOther (by omega) _⟩, below_set h5 h2.below.1 _, h6, h7, h8⟩
set_option maxRecDepth 100000 in
set_option maxHeartbeats 6400000 in
theorem l5Counts_any (ta : Option Addr) (tcap tn : Nat) (T : List Tk) (w : World) (htn : T.length = tn) (hT : KRow w ta T) (htm : tn ≤ 300) (hok : ∀ t ∈ T, okT t = true) :
    Calls Tryz.prog 67 #[.slice ta tn tcap] w fun e w' => (∃ gl gd, e = .returned (.tuple #[.slice (some ⟨gl, 0, none⟩) 286 286, .slice (some ⟨gd, 0, none⟩) 30 30]) ∧ IOwn w' w.heap.size (.slice (some ⟨gl, 0, none⟩) 286 286) (litC T) ∧ IOwn w' w.heap.size (.slice (some ⟨gd, 0, none⟩) 30 30) (distC T)) ∧ Below w.heap.size w w' := by
  obtain ⟨i0, hi, hz0, hz1, hz2⟩ := info_parts Tryz.infoInt
  have Htn := hide htn
  have HT := hide hT
  have Htm := hide htm
  have Hok := hide hok
  have htI : (tn : Int) ≤ 300 := by omega
  clear htn hT htm hok
  go_enter Tryz.func67, Tryz.ntmps67
  go_wp2_with (first
    | (at_make; refine wpList_make_full _ rfl _ _ 32 rfl w.heap.size 3 i0 (.int .i64 0) 1 Tryz.underlying32 hi hz0 hz1 .i64 .i64 _ _ 286 rfl rfl rfl rfl (by rw [hz2]; omega) (by unfold maxLen; omega) (Nat.le_refl _) ?_; intro x1 ho1 hg1; have b1 := grown_below hg1; have o1 := made_ints ho1; clear hg1 ho1)
    | (at_make; refine wpList_make_full _ rfl _ _ 32 rfl w.heap.size 3 i0 (.int .i64 0) 1 Tryz.underlying32 hi hz0 hz1 .i64 .i64 _ _ 30 rfl rfl rfl rfl (by rw [hz2]; omega) (by unfold maxLen; omega) b1.size ?_; intro x2 ho2 hg2; have b2 := grown_below hg2; have o2 := made_ints ho2; clear hg2 ho2))
  have lt1 := o1.below.2
  have O1 := hide (o1.later b2 (Nat.le_refl _))
  have O2 := hide o2
  have B2 := hide (bnext b1 b2)
  have lt2 := o2.below.2
  obtain ⟨gl, hgl⟩ : ∃ g, w.heap.size = g := ⟨_, rfl⟩
  obtain ⟨gd, hgd⟩ : ∃ g, x1.heap.size = g := ⟨_, rfl⟩
  have hne : gl ≠ gd := by omega
  have hlt1 : gl < x2.heap.size := by omega
  have hlt2 : gd < x2.heap.size := by omega
  rw [hgd] at O2
  have HO1 : Hid (IOwn x2 w.heap.size (.slice (some ⟨gl, 0, none⟩) 286 286) (List.replicate 286 0)) := by show IOwn _ _ _ _; have := unhide O1; rw [hgl] at this ⊢; exact this
  rw [hgd]
  have eg : Value.slice (some ⟨w.heap.size, 0, none⟩) 286 286 = .slice (some ⟨gl, 0, none⟩) 286 286 := by rw [hgl]
  rw [eg]
  clear o1 o2 b1 b2 lt1 lt2 O1 eg hgl hgd
  refine (longBits_v _).mono ?_
  rintro e x3 ⟨⟨g3, rfl, o3⟩, b3⟩
  have R3 := hide (o3.rowN rfl)
  have B3 := hide b3
  clear o3 b3
  go_wp2_with fail
  refine (l5BaseLong_any _ 28 _ (unhide R3)).mono ?_
  rintro e x4 ⟨v4, rfl, o4, b4⟩
  obtain ⟨a4, c4, rfl⟩ := o4.formN longB_len
  obtain ⟨g4, rfl⟩ := o4.somes (by rw [longB_len]; omega)
  have O4 := hide (o4.mono (unhide B3).size)
  have B4 := hide (bnext (unhide B3) b4)
  clear o4 b4 B3 R3
  go_wp2_with fail
  refine (backBits_v _).mono ?_
  rintro e x5 ⟨⟨g5, rfl, o5⟩, b5⟩
  have R5 := hide (o5.rowN rfl)
  have B5 := hide (bnext (unhide B4) b5)
  have O4' := hide ((unhide O4).later b5 (Nat.le_refl _))
  clear o5 b5 O4
  go_wp2_with fail
  refine (l5BaseBack_any _ 30 _ (unhide R5)).mono ?_
  rintro e x6 ⟨v6, rfl, o6, b6⟩
  obtain ⟨a6, c6, rfl⟩ := o6.formN backB_len
  obtain ⟨g6, rfl⟩ := o6.somes (by rw [backB_len]; omega)
  have hs2 := (unhide B5).size
  have O4 : IOwn x6 x2.heap.size (.slice (some ⟨g4, 0, none⟩) 28 c4) longB := (unhide O4').later b6 (Nat.le_refl _)
  have O6 : IOwn x6 x2.heap.size (.slice (some ⟨g6, 0, none⟩) 30 c6) backB := o6.mono hs2
  have B6 := bnext (unhide B5) b6
  have hC0 : CntM w x6 x2.heap.size gl gd g4 c4 g6 c6 (List.replicate 286 0) (List.replicate 30 0) := ⟨⟨(unhide HO1).later B6 (Nat.le_refl _), (unhide O2).later B6 (Nat.le_refl _)⟩, ⟨O4, O6⟩, bnext (unhide B2) B6, hne, hlt1, hlt2⟩
  have hC1 := hC0.putL (List.length_replicate ..) 256 1
  have e1 : (List.replicate 286 (0 : Int)).set 256 1 = litM T 0 := (litM_zero T).symm
  rw [e1] at hC1
  have hC2 : CntM w (x6.setCell ⟨gl, 256, none⟩ (.int .i64 1)) x2.heap.size gl gd g4 c4 g6 c6 (litM T 0) (distM T 0) := hC1
  obtain ⟨f1, f2, _, _⟩ := hC0.1.1.at (j := 256) (List.length_replicate ..) (by omega)
  clear hC0 hC1 e1 O4 O6 B6 b6 o6 HO1 O2 B2 B4 O4' hs2 R5 B5 hlt1 hlt2
  generalize x2.heap.size = B at *
  go_wp2_with fail
  go_loopw [8, 9] (fun i _ wr => ∃ k : Nat, k ≤ tn ∧ i = .int .i64 k ∧ CntM w wr B gl gd g4 c4 g6 c6 (litM T k) (distM T k)) (fun i _ _ => tn - (intOf i).toNat)
  case atStart => exact ⟨0, Nat.zero_le _, rfl, hC2⟩
  case round =>
    obtain ⟨k, hk, rfl, hC⟩ := hrel
    clear hC2 f1 f2
    by_cases hlt : k < tn
    · obtain ⟨g, o, rfl, hg, hcc⟩ := (unhide HT) (by rw [unhide Htn]; omega)
      obtain ⟨c0, c1, c2⟩ := hcc k (by rw [unhide Htn]; exact hlt)
      have d0 := (hC.2.2.1.cell (p := ⟨g, o + k * 3, none⟩) hg).trans c0
      have d1 := (hC.2.2.1.cell (p := ⟨g, o + k * 3 + 1, none⟩) hg).trans c1
      have d2 := (hC.2.2.1.cell (p := ⟨g, o + k * 3 + 2, none⟩) hg).trans c2
      have hgg : g ≠ gl := by have := hC.1.1.below.1; omega
      have hgg2 : g ≠ gd := by have := hC.1.2.below.1; omega
      clear c0 c1 c2
      have hkT : k < T.length := by rw [unhide Htn]; exact hlt
      have ht := unhide Hok (T.getD k k0) (by simp [List.getD, hkT])
      have hsl := hide (litM_succ T k hkT)
      have hk300 : k ≤ 300 := by have := unhide Htm; omega
      have Hk := hide hlt
      clear hcc
      cases hb : isB (T.getD k k0)
      · have hK : isK (T.getD k k0) = true := by unfold okT at ht; rw [hb] at ht; simpa using ht
        obtain ⟨q1, q2, q3, q4⟩ := isK_bd hK
        have hsd := hide (distM_K T k hkT hb)
        have e2 : litS (T.getD k k0) = 257 + fnd 3 4 (T.getD k k0).2.1.toNat 27 := by unfold litS; rw [if_neg (by rw [hb]; exact Bool.false_ne_true)]
        rw [e2] at hsl
        obtain ⟨y, hy⟩ := Int.eq_ofNat_of_zero_le (show 0 ≤ (T.getD k k0).2.1 by omega)
        obtain ⟨z, hz⟩ := Int.eq_ofNat_of_zero_le (show 0 ≤ (T.getD k k0).2.2 by omega)
        rw [hy] at d1 q1 q2 hsl
        rw [hz] at d2 q3 q4 hsd
        rw [Int.toNat_natCast] at hsl hsd
        have HS1 := hide (fun W (h : IRow W (some ⟨g4, 0, none⟩) longB) => l5Sym_any (some ⟨g4, 0, none⟩) c4 28 longB (y : Int) W longB_len h (by omega) (by omega))
        have HS2 := hide (fun W (h : IRow W (some ⟨g6, 0, none⟩) backB) => l5Sym_any (some ⟨g6, 0, none⟩) c6 30 backB (z : Int) W backB_len h (by omega) (by omega))
        rw [long_sym y (by omega) (by omega)] at HS1
        rw [back_sym z (by omega) (by omega)] at HS2
        have k1 := fnd_le 3 4 y 27
        have k2 := fnd_le 1 2 z 29
        clear hb hK hkT e2 hy hz ht
        generalize fnd 3 4 y 27 = p at *
        generalize fnd 1 2 z 29 = q at *
        have b1 := litM_bd T k (257 + p) hk300
        have b2 := distM_bd T k q hk300
        obtain ⟨m1, m2, _, _⟩ := hC.1.1.at (j := 257 + p) (litM_len T k) (by omega)
        have hC3 := hC.putL (litM_len T k) (257 + p) ((litM T k).getD (257 + p) 0 + 1)
        have el : (litM T k).set (257 + p) ((litM T k).getD (257 + p) 0 + 1) = litM T (k + 1) := (unhide hsl).symm
        rw [el] at hC3
        generalize (litM T k).getD (257 + p) 0 = ya at *
        obtain ⟨m3, m4, _, _⟩ := hC3.1.2.at (j := q) (distM_len T k) (by omega)
        have hC4 := hC3.putD (distM_len T k) q ((distM T k).getD q 0 + 1)
        have ed : (distM T k).set q ((distM T k).getD q 0 + 1) = distM T (k + 1) := (unhide hsd).symm
        rw [ed] at hC4
        generalize (distM T k).getD q 0 = za at *
        have R1 := hide (unhide HS1 wr (hC.2.1.1.rowN longB_len))
        have R2 := hide (unhide HS2 _ (hC3.2.1.2.rowN backB_len))
        have d2' : (wr.setCell ⟨gl, 257 + p, none⟩ (.int .i64 (ya + 1))).cell? ⟨g, o + k * 3 + 2, none⟩ = some (.int .i64 (z : Int)) := by
          rw [World.cell?_setCell_other _ _ _ _ (by intro e; simp only [Addr.mk.injEq] at e; exact hgg e.1.symm)]
          exact d2
        have HC4 := hide hC4
        have hpI : (257 : Int) + (p : Int) < 286 := by omega
        have hqI : (q : Int) < 30 := by omega
        have hyI : ya ≤ 301 := b1.2
        have hzI : za ≤ 300 := b2.2
        have hy0 : 0 ≤ ya := b1.1
        have hz0' : 0 ≤ za := b2.1
        have y0' : ¬ (y : Int) = 0 := by omega
        clear hC hC3 hC4 el ed b1 b2 k1 k2 q1 q2 q3 q4 HS1 HS2 hk300
        go_wp2_with fail
        refine (unhide R1).mono ?_
        rintro e x7 ⟨rfl, hx7⟩
        rw [hx7]
        clear hx7 x7
        go_wp2_with fail
        refine (unhide R2).mono ?_
        rintro e x7 ⟨rfl, hx7⟩
        rw [hx7]
        clear hx7 x7
        go_wp2
        go_roundw
        case rel => exact ⟨k + 1, by have := unhide Hk; omega, by go_num, unhide HC4⟩
        case measure => have := unhide Hk; simp [intOf]; omega
      · obtain ⟨q1, q2⟩ := isB_bd hb
        have hz := isB_zero hb
        have hsd := hide (distM_B T k hkT hb)
        have e2 : litS (T.getD k k0) = (T.getD k k0).1.toNat := by unfold litS; rw [if_pos hb]
        rw [e2] at hsl
        obtain ⟨y, hy⟩ := Int.eq_ofNat_of_zero_le q1
        rw [hy] at d0 q2 hsl
        rw [hz] at d1
        rw [Int.toNat_natCast] at hsl
        clear hb hkT e2 hy hz ht d2 q1
        have b1 := litM_bd T k y hk300
        obtain ⟨m1, m2, _, _⟩ := hC.1.1.at (j := y) (litM_len T k) (by omega)
        have hC3 := hC.drew.putL (litM_len T k) y ((litM T k).getD y 0 + 1)
        have el : (litM T k).set y ((litM T k).getD y 0 + 1) = litM T (k + 1) := (unhide hsl).symm
        rw [el, ← unhide hsd] at hC3
        generalize (litM T k).getD y 0 = ya at *
        have HC3 := hide hC3
        have hyI : ya ≤ 301 := b1.2
        have hy0 : 0 ≤ ya := b1.1
        have hyN : (y : Int) < 286 := by omega
        clear hC hC3 el b1 hk300 q2
        go_wp2
        go_region
        go_wp2
        go_roundw
        case rel => exact ⟨k + 1, by have := unhide Hk; omega, by go_num, unhide HC3⟩
        case measure => have := unhide Hk; simp [intOf]; omega
    · have hkT : T.take k = T := List.take_of_length_le (by rw [unhide Htn]; omega)
      have hkl : k ≤ 300 := by have := unhide Htm; omega
      have eL : litM T k = litC T := by unfold litM; rw [hkT]; exact litC_other T
      have eD : distM T k = distB T := by unfold distM distB; rw [hkT]
      have b2 := distM_bd T k 0 hkl
      rw [eL, eD] at hC
      rw [eD] at b2
      have HU := hide (l3Used_any (some ⟨gd, 0, none⟩) 30 30 (distB T) wr (distB_len T) (hC.1.2.rowN (distB_len T)) (by omega))
      obtain ⟨m1, m2, _, _⟩ := hC.1.2.at (j := 0) (distB_len T) (by omega)
      have HC := hide hC
      clear hC hkT hkl eL eD
      by_cases hu : us (distB T) = 0
      · have hz : (distB T).getD 0 0 = 0 := by have := us_zero hu 0 (by rw [distB_len]; omega); omega
        have HC2 := hide ((unhide HC).putD (distB_len T) 0 1)
        have e1 : (distB T).set 0 1 = distC T := by unfold distC; rw [if_pos hu]; unfold inc; rw [hz]; rfl
        rw [e1] at HC2
        rw [hu] at HU
        clear e1 hz b2 HC hu
        go_wp2_with fail
        refine (unhide HU).mono ?_
        rintro e x7 ⟨rfl, hx7⟩
        rw [hx7]
        clear hx7 x7
        go_wp2
        go_ret2
        exact ⟨⟨gl, gd, rfl, (unhide HC2).1.1, (unhide HC2).1.2⟩, (unhide HC2).2.2.1⟩
      · have e1 : distB T = distC T := by unfold distC; rw [if_neg hu]
        have hub : ((us (distB T) : Nat) : Int) ≠ 0 := by omega
        have hub2 : (((us (distB T) : Nat) : Int) == 0) = false := by simpa using hub
        rw [e1] at HC
        clear e1 b2 hu
        generalize us (distB T) = U at *
        go_wp2_with fail
        refine (unhide HU).mono ?_
        rintro e x7 ⟨rfl, hx7⟩
        rw [hx7]
        clear hx7 x7
        go_wp2
        go_ret2
        exact ⟨⟨gl, gd, rfl, (unhide HC).1.1, (unhide HC).1.2⟩, (unhide HC).2.2.1⟩
end Go.Proofs.YtpmidjddjdejmaaGreatDoor
namespace Go.Proofs.YtpmidjddjdejmaaGreatDoor
open Go.RowKit Corb
theorem irow_news {w : World} {g o : Nat} {l : List Int} (hcl : ∀ i, i < l.length → w.cell? ⟨g, o + i, none⟩ = some (.int .i64 (l.getD i 0))) : ∀ j u, (l.map (Value.int .i64))[j]? = some u → w.cell? ((⟨g, o, none⟩ : Addr).add j) = some u := by
  intro j u hj
  have hjl : j < l.length := by have := (List.getElem?_eq_some_iff.1 hj).1; simpa using this
  have hadd : (⟨g, o, none⟩ : Addr).add j = ⟨g, o + j, none⟩ := by unfold Addr.add; split <;> simp_all
  rw [hadd, hcl j hjl, ← hj]
  simp [List.getD, hjl]
def lensQ (l : List Int) (t : List Int) : List (Int × Int) := t.map fun x => pcM l x.toNat
theorem lensQ_take (l t : List Int) (k : Nat) (h : k < t.length) : lensQ l (t.take (k + 1)) = lensQ l (t.take k) ++ [pcM l (t.getD k 0).toNat] := by
  unfold lensQ
  rw [take_snocI t k h, List.map_append]; rfl
theorem toldQ (L D : List Int) : listB L D ++ (ordP (lens7 (L ++ D)) 19 ++ lensQ (lens7 (L ++ D)) (L ++ D)) = toldP L D := rfl
def LR (W : World) (b : Nat) (A l : List Int) (gA g7 gc : Option Addr) : Prop := NRow W b gA A ∧ NRow W b g7 l ∧ NRow W b gc (outN l 15).2
theorem LR.keep {W W' : World} {b : Nat} {A l : List Int} {gA g7 gc : Option Addr} (h : LR W b A l gA g7 gc) (hk : Keep5 b W W') : LR W' b A l gA g7 gc := ⟨h.1.keep hk, h.2.1.keep hk, h.2.2.keep hk⟩
set_option maxRecDepth 100000 in
set_option maxHeartbeats 6400000 in
theorem lensM_any (b : Nat) (p : Nat × Nat) (a aD : Option Addr) (cL nL cD nD : Nat) (L D : List Int) (w : World) (ho : OutQ w b p) (hL : IRow w a L) (hD : IRow w aD D) (hnL : L.length = nL) (hnD : D.length = nD)
    (l0 : 257 ≤ nL) (l1 : nL ≤ 286) (d0 : 1 ≤ nD) (d1 : nD ≤ 30) (kL : lensOk L = true) (kD : lensOk D = true) (hp : p.2 ≤ 1000) :
    Calls Tryz.prog 71 #[.pointer (some ⟨b, 0, none⟩), .slice a nL cL, .slice aD nD cD] w fun e w' => e = .returned (.tuple #[]) ∧ OutQ w' b (outP p (toldP L D)) ∧ KB b w w' := by
  obtain ⟨i0, hi, hz0, hz1, hz2⟩ := info_parts Tryz.infoInt
  have hbw : b < w.heap.size := Out.lt ho
  have HA : Hid (∀ x ∈ L ++ D, 0 ≤ x ∧ x ≤ 15) := by
    intro x hx
    rcases List.mem_append.1 hx with h | h
    · exact lens_bd kL x h
    · exact lens_bd kD x h
  obtain ⟨nA, hnA⟩ : ∃ nA, (L ++ D).length = nA := ⟨_, rfl⟩
  have hnA' : nA = nL + nD := by rw [← hnA, List.length_append, hnL, hnD]
  have HF := hide (lens7F (L ++ D) (by omega) (by omega) (unhide HA))
  have HOk := hide (toldP_ok kL kD (by omega) (by omega) (by omega) (by omega))
  have HQ := hide (toldQ L D)
  have HU := hide (cnt7_us (L ++ D) (by omega) (unhide HA))
  have HCk := hide (cnt7_ok (L ++ D) (by omega))
  have HB : Hid (listB L D = [((nL : Int) - 257, 5), ((nD : Int) - 1, 5), (15, 4)]) := by show listB L D = _; unfold listB; rw [hnL, hnD]
  have HB1 : Hid (pOk ((nL : Int) - 257) 5 = true ∧ pOk ((nD : Int) - 1) 5 = true) := by
    have : p2 (5 : Int).toNat = 32 := by decide
    exact ⟨pOk_true.2 ⟨by omega, by omega, by rw [this]; omega⟩, pOk_true.2 ⟨by omega, by omega, by rw [this]; omega⟩⟩
  obtain ⟨g, o, rfl, hg, hcl⟩ := hL (by omega)
  obtain ⟨g', o', rfl, hg', hcl'⟩ := hD (by omega)
  have hB0 : Below w.heap.size w (w.alloc (.cells #[] 3)) := (Below.refl _ _).alloc (Nat.le_refl _) _
  have hR0 : World.ownsRow (w.alloc (.cells #[] 3)) w.heap.size 3 1 (.slice (some ⟨w.heap.size, 0, none⟩) 0 0) 0 [] := World.ownsRow_lit w #[] 0 (Nat.le_refl _) (by unfold maxLen; omega) rfl
  have hnews := hide (irow_news (w := w.alloc (.cells #[] 3)) (g := g) (o := o) (l := L) (fun i hi => by rw [hB0.cell (p := ⟨g, o + i, none⟩) hg]; exact hcl i hi))
  have hnews2 : Hid (∀ W, Below w.heap.size w W → ∀ j u, (D.map (Value.int .i64))[j]? = some u → W.cell? ((⟨g', o', none⟩ : Addr).add j) = some u) := fun W hW => irow_news (fun i hi => by rw [hW.cell (p := ⟨g', o' + i, none⟩) hg']; exact hcl' i hi)
  have hll : Hid ((L.map (Value.int .i64)).length = nL * 1) := by show _ = _; simp [hnL]
  have hld : Hid ((D.map (Value.int .i64)).length = nD * 1) := by show _ = _; simp [hnD]
  have hb1 : Hid ((0 + nL ≤ maxLen ∧ (0 + nL) * 8 ≤ 140737488355328) ∧ (0 + nL + nD ≤ maxLen ∧ (0 + nL + nD) * 8 ≤ 140737488355328)) := by show (_ ∧ _) ∧ _ ∧ _; unfold maxLen; omega
  have nLI : (nL : Int) ≤ 286 := by omega
  have nDI : (nD : Int) ≤ 30 := by omega
  have nLI0 : (257 : Int) ≤ (nL : Int) := by omega
  have nDI0 : (1 : Int) ≤ (nD : Int) := by omega
  have nAI : (nA : Int) ≤ 316 := by omega
  have HNA : Hid (1 ≤ nA ∧ nA ≤ 316 ∧ nA = nL + nD) := by show _ ∧ _; omega
  have HO := hide ho
  have Hp := hide hp
  clear hL hD kL kD l0 l1 d0 d1 hnL hnD hnA' ho hp hcl hcl' hg hg'
  generalize hAe : L ++ D = A at *
  have HAe : Hid (L.map (Value.int .i64) ++ D.map (Value.int .i64) = A.map (Value.int .i64)) := by show _ = _; rw [← hAe, List.map_append]
  have HAn := hide hnA
  clear hnA hAe
  go_enter Tryz.func71, Tryz.ntmps71
  go_wp2_with (first
    | (at_builtin; refine wpList_append_own _ rfl _ _ 32 rfl w.heap.size 3 i0 (.int .i64 0) 1 8 Tryz.underlying32 hi hz0 hz1 hz2 rfl (by decide) _ _ _ rfl hR0 ⟨g, o, none⟩ nL cL (L.map (Value.int .i64)) rfl (unhide hll) (unhide hnews) (ints_oneCell .i64 _) (unhide hb1).1.1 (unhide hb1).1.2 hB0.size ?_; intro v1 x1 hown1 hgrow1 hnil; clear hnil; have hB1 : Below w.heap.size w x1 := hB0.grown hgrow1 hB0.size (fun j hj => (World.ownsRow.lt hR0 j hj).1))
    | (at_builtin; refine wpList_append_own _ rfl _ _ 32 rfl w.heap.size 3 i0 (.int .i64 0) 1 8 Tryz.underlying32 hi hz0 hz1 hz2 rfl (by decide) _ _ _ rfl hown1 ⟨g', o', none⟩ nD cD (D.map (Value.int .i64)) rfl (unhide hld) (unhide hnews2 _ hB1) (ints_oneCell .i64 _) (unhide hb1).2.1 (unhide hb1).2.2 hB1.size ?_; intro v2 x2 hown2 hgrow2 hnil; clear hnil; have hB2 : Below w.heap.size w x2 := hB1.grown hgrow2 hB1.size (fun j hj => (World.ownsRow.lt hown1 j hj).1))
    | (at_make; refine wpList_make_full _ rfl _ _ 32 rfl w.heap.size 3 i0 (.int .i64 0) 1 Tryz.underlying32 hi hz0 hz1 .i64 .i64 _ _ 19 rfl rfl rfl rfl (by rw [hz2]; omega) (by unfold maxLen; omega) hB2.size ?_; intro x3 hown3 hgrow3))
  have hA2 : IOwn x2 w.heap.size v2 A := by
    show World.ownsRow _ _ _ _ _ A.length _
    rw [unhide HAn, (unhide HNA).2.2, ← unhide HAe]
    simpa using hown2
  obtain ⟨aA, cA, rfl⟩ := hA2.formN (unhide HAn)
  obtain ⟨gA, rfl⟩ := hA2.somes (by have := unhide HAn; have := unhide HNA; omega)
  have hg1 := hA2.below.2
  obtain ⟨gC, hgC⟩ : ∃ gC, x2.heap.size = gC := ⟨_, rfl⟩
  have b3 := grown_below hgrow3
  have o2 := made_ints hown3
  rw [hgC] at o2 hg1
  have hb2 := bnext hB2 b3
  have o1 := hA2.later b3 (Nat.le_refl _)
  have hne : gC ≠ gA := by omega
  rw [hgC]
  clear hown1 hown2 hown3 hgrow1 hgrow2 hgrow3 b3 hgC hg1 hB0 hB1 hB2 hR0 hnews hnews2 hll hld hb1 HAe hA2
  go_loopw [8] (fun i wr => ∃ k : Nat, k ≤ nA ∧ i = .int .i64 k ∧ IOwn wr w.heap.size (.slice (some ⟨gA, 0, none⟩) nA cA) A ∧ IOwn wr w.heap.size (.slice (some ⟨gC, 0, none⟩) 19 19) (incs (List.replicate 19 0) ((A.take k).map Int.toNat)) ∧ Below w.heap.size w wr) (fun i _ => nA - (intOf i).toNat)
  case atStart => exact ⟨0, Nat.zero_le _, rfl, o1, o2, hb2⟩
  case round =>
    obtain ⟨k, hk, rfl, hA1, hC1, hbel⟩ := hrel
    clear o1 o2 hb2
    by_cases hlt : k < nA
    · obtain ⟨c0, _, _, _⟩ := hA1.at (unhide HAn) hlt
      have hin : A.getD k 0 ∈ A := by have := unhide HAn; simp [List.getD, show k < A.length by omega]
      have hyb := unhide HA _ hin
      have hst : Hid ((A.take (k + 1)).map Int.toNat = (A.take k).map Int.toNat ++ [(A.getD k 0).toNat]) := by
        show _ = _
        rw [take_snocI A k (by rw [unhide HAn]; exact hlt), List.map_append]; rfl
      have hln : (incs (List.replicate 19 0) ((A.take k).map Int.toNat)).length = 19 := by rw [incs_len, List.length_replicate]
      obtain ⟨y, hy⟩ := Int.eq_ofNat_of_zero_le hyb.1
      rw [hy] at hst c0 hyb
      rw [Int.toNat_natCast] at hst
      have hb := incs_bd 19 ((A.take k).map Int.toNat) y
      have hlk : ((A.take k).map Int.toNat).length ≤ nA := by simp; omega
      obtain ⟨e0, e1, e2, e3⟩ := hC1.at (j := y) hln (by omega)
      have hP := IOwn.put (w := wr.drew) (j := y) hln hC1 ((incs (List.replicate 19 0) ((A.take k).map Int.toNat)).getD y 0 + 1)
      have hP2 : Hid (∀ u, IOwn (wr.drew.setCell ⟨gC, y, none⟩ u) w.heap.size (.slice (some ⟨gA, 0, none⟩) nA cA) A ∧ Below w.heap.size w (wr.drew.setCell ⟨gC, y, none⟩ u)) := fun u => ⟨IOwn.setOther (w := wr.drew) hA1 hne u, below_set hbel.drew e2 u⟩
      have HP : Hid (IOwn (wr.drew.setCell ⟨gC, y, none⟩ (.int .i64 ((incs (List.replicate 19 0) ((A.take k).map Int.toNat)).getD y 0 + 1))) w.heap.size (.slice (some ⟨gC, 0, none⟩) 19 19) (incs (List.replicate 19 0) ((A.take (k + 1)).map Int.toNat))) := by
        show IOwn _ _ _ _
        rw [unhide hst, incs_snoc]
        exact hP
      generalize (incs (List.replicate 19 0) ((A.take k).map Int.toNat)).getD y 0 = z at *
      have hyI : (y : Int) < 19 := by omega
      have hzI : z ≤ 400 := by have := unhide HNA; omega
      have hz0' : 0 ≤ z := hb.1
      have Hk := hide hk
      clear hP hC1 hA1 hbel hlk hb hyb hy hin hk hln e2 e3
      go_wp2
      go_region
      go_wp2
      go_roundw
      case rel => exact ⟨k + 1, by have := unhide Hk; omega, by go_num, (unhide hP2 _).1, unhide HP, (unhide hP2 _).2⟩
      case measure => simp [intOf]; omega
    · have hkn : A.take k = A := List.take_of_length_le (by rw [unhide HAn]; omega)
      rw [hkn] at hC1
      have hC2 : IOwn wr w.heap.size (.slice (some ⟨gC, 0, none⟩) 19 19) (cnt7 A) := hC1
      have HL : Hid (Calls Tryz.prog 69 #[.slice (some ⟨gC, 0, none⟩) 19 19, .int .i64 7] wr fun e w' => (∃ v, e = .returned v ∧ IOwn w' wr.heap.size v (lens7 A)) ∧ Below wr.heap.size wr w') := l3Fit_any (some ⟨gC, 0, none⟩) 19 19 6 (cnt7 A) wr (cnt7_len A) (hC2.rowN (cnt7_len A)) (by omega) (by omega) (unhide HCk) (by rw [seed_usL]; have h2 := p2_6; have := (unhide HU).2; omega) (by omega)
      have hsz := hbel.size
      have O1 := hide hA1
      have B1 := hide hbel
      clear hkn hC1 hC2 hA1 hbel
      go_wp2_with fail
      refine (unhide HL).mono ?_
      rintro e x3 ⟨⟨v3, rfl, o3⟩, b3⟩
      obtain ⟨a3, c3, rfl⟩ := o3.formN (unhide HF).1
      obtain ⟨g3, rfl⟩ := o3.somes (by rw [(unhide HF).1]; omega)
      have O1' := hide ((unhide O1).later b3 (Nat.le_refl _))
      have B3 := hide (bnext (unhide B1) b3)
      have O3 := hide (o3.mono hsz)
      clear o3 b3 HL O1 B1
      go_wp2_with fail
      refine (l3Codes_v (some ⟨g3, 0, none⟩) c3 19 (lens7 A) x3 (unhide HF).1 ((unhide O3).rowN (unhide HF).1) (by omega)).mono ?_
      rintro e x4 ⟨⟨g4, rfl, o4⟩, b4⟩
      have hR : LR x4 b A (lens7 A) (some ⟨gA, 0, none⟩) (some ⟨g3, 0, none⟩) (some ⟨g4, 0, none⟩) := ⟨iown_nrow (unhide HAn) ((unhide O1').later b4 (Nat.le_refl _)) hbw, iown_nrow (unhide HF).1 ((unhide O3).later b4 (Nat.le_refl _)) hbw, iown_nrow ((outN_len _ 15).trans (unhide HF).1) (o4.mono (unhide B3).size) hbw⟩
      have hB4 := bnext (unhide B3) b4
      have hO4 : OutQ x4 b p := Out.kept (unhide HO) hB4
      have hK4 : KB b w x4 := (KB.refl b w).below hB4 (Nat.le_of_lt hbw)
      have HR := hide hR
      have HO4 := hide hO4
      have HK4 := hide hK4
      clear hR o4 b4 hB4 hO4 hK4 O1' O3 B3
      have hLb := outP_bits p (listB L D) (by rw [unhide HB]; intro x hx; simp at hx; rcases hx with rfl | rfl | rfl <;> simp)
      go_wp2_with fail
      refine (putP_any b p ((nL : Int) - 257) 5 x4 (unhide HO4) (unhide HB1).1 (by have := unhide Hp; omega)).mono ?_
      rintro e x5 ⟨rfl, o5, k5⟩
      have HO5 := hide o5
      have HR5 := hide ((unhide HR).keep k5.2)
      have HK5 := hide ((unhide HK4).trans k5)
      have q5 := outP_bits p [((nL : Int) - 257, 5)] (by intro x hx; simp at hx; subst hx; simp)
      clear o5 k5 HO4 HR HK4
      go_wp2_with fail
      refine (putP_any b _ ((nD : Int) - 1) 5 x5 (unhide HO5) (unhide HB1).2 (by have := unhide Hp; simp only [List.length_cons, List.length_nil] at q5; omega)).mono ?_
      rintro e x6 ⟨rfl, o6, k6⟩
      rw [← outP_append] at o6
      have HO6 := hide o6
      have HR6 := hide ((unhide HR5).keep k6.2)
      have HK6 := hide ((unhide HK5).trans k6)
      have q6 := outP_bits p ([((nL : Int) - 257, 5)] ++ [((nD : Int) - 1, 5)]) (by intro x hx; simp at hx; rcases hx with rfl | rfl <;> simp)
      clear o6 k6 HO5 HR5 HK5
      go_wp2_with fail
      refine (putP_any b _ 15 4 x6 (unhide HO6) (by decide) (by have := unhide Hp; simp only [List.length_cons, List.length_nil, List.length_append] at q6; omega)).mono ?_
      rintro e x7 ⟨rfl, o7, k7⟩
      rw [← outP_append] at o7
      have o7' : OutQ x7 b (outP p (listB L D ++ ordP (lens7 A) 0)) := by rw [unhide HB]; exact o7
      have hR7 := (unhide HR6).keep k7.2
      have hK7 := (unhide HK6).trans k7
      clear o7 k7 HO6 HR6 HK6 q5 q6
      go_wp2_with fail
      have HGd := hide (good_of (unhide HF).2.1)
      have Hlb : Hid (∀ l : List (Int × Int), (∀ x ∈ l, x.2 ≤ 16) → l.length ≤ 400 → (outP p (listB L D ++ l)).2 ≤ 100000) := by
        intro l h1 h2
        have h3 := outP_bits p (listB L D ++ l) (by
          intro x hx
          rcases List.mem_append.1 hx with h | h
          · rw [unhide HB] at h; simp at h; rcases h with rfl | rfl | rfl <;> simp
          · exact h1 x h)
        rw [List.length_append] at h3
        have h4 : (listB L D).length = 3 := rfl
        have := unhide Hp
        omega
      clear hLb
      go_loopw [11] (fun i wr => ∃ j : Nat, j ≤ 19 ∧ i = .int .i64 j ∧ OutQ wr b (outP p (listB L D ++ ordP (lens7 A) j)) ∧ LR wr b A (lens7 A) (some ⟨gA, 0, none⟩) (some ⟨g3, 0, none⟩) (some ⟨g4, 0, none⟩) ∧ KB b w wr) (fun i _ => 19 - (intOf i).toNat)
      case atStart => exact ⟨0, by omega, rfl, o7', hR7, hK7⟩
      case round =>
        obtain ⟨j, hj19, rfl, hoo, hrr, hkk⟩ := hrel
        clear o7' hR7 hK7
        by_cases hlt : j < 19
        · have hst : Hid (outP p (listB L D ++ ordP (lens7 A) (j + 1)) = outP (outP p (listB L D ++ ordP (lens7 A) j)) [((lens7 A).getD (ordL.getD j 0) 0, 3)]) := by show _ = _; rw [ordP_succ (lens7 A) j hlt, ← List.append_assoc, outP_append]
          have hol := ord_lt j hlt
          have hbits := unhide Hlb (ordP (lens7 A) j) (by intro x hx; unfold ordP at hx; obtain ⟨i, _, rfl⟩ := List.mem_map.1 hx; simp) (by rw [ordP_len _ _ hj19]; omega)
          have hyb := (unhide HF).2.2 (ordL.getD j 0) hol
          have hog := ordI_get j hlt
          have hlt0 := Out.lt hoo
          have HJ := hide (And.intro hlt (And.intro hoo (And.intro hrr hkk)))
          have hjI : (j : Int) < 19 := by omega
          clear hoo hrr hkk hj19
          generalize outP p (listB L D ++ ordP (lens7 A) j) = P at *
          go_wp2_with fail
          refine (l5Order_any wr).mono ?_
          rintro e x8 ⟨⟨g8, rfl, o8⟩, b8⟩
          obtain ⟨d8, _, _, _⟩ := o8.at (j := j) ordI_len hlt
          rw [hog] at d8
          have hrr8 := (unhide HJ).2.2.1.keep (keep_below b8)
          have hoo8 : OutQ x8 b P := Out.kept (unhide HJ).2.1 b8
          have hkk8 := (unhide HJ).2.2.2.below b8 (Nat.le_of_lt hlt0)
          obtain ⟨g, o, e, _, dd⟩ := irow_cell hrr8.2.1 (k := ordL.getD j 0) (by rw [(unhide HF).1]; exact hol)
          cases e
          rw [Nat.zero_add] at dd
          have hP1 : pOk ((lens7 A).getD (ordL.getD j 0) 0) 3 = true := by
            have : p2 (3 : Int).toNat = 8 := by decide
            exact pOk_true.2 ⟨by omega, hyb.1, by rw [this]; omega⟩
          generalize (lens7 A).getD (ordL.getD j 0) 0 = y at *
          generalize ordL.getD j 0 = q at *
          have hqI : (q : Int) < 19 := by omega
          have HX := hide (And.intro hrr8 hkk8)
          have HPu := hide (putP_any b P y 3 x8 hoo8 hP1 hbits)
          have Hj := hide (unhide HJ).1
          clear o8 b8 hrr8 hoo8 hkk8 HJ hol hyb hog hbits hP1 hlt
          go_wp2_with fail
          refine (unhide HPu).mono ?_
          rintro e x9 ⟨rfl, o9, k9⟩
          rw [← unhide hst] at o9
          have HY := hide (And.intro o9 (And.intro ((unhide HX).1.keep k9.2) ((unhide HX).2.trans k9)))
          clear o9 k9 HX HPu d8 dd hst
          go_wp2
          go_roundw
          case rel => exact ⟨j + 1, by have := unhide Hj; omega, by go_num, (unhide HY).1, (unhide HY).2.1, (unhide HY).2.2⟩
          case measure => have := unhide Hj; simp [intOf]; omega
        · have hj9 : j = 19 := by omega
          have hjI : ¬ (j : Int) < 19 := by omega
          rw [hj9] at hoo
          have hoo' : OutQ wr b (outP p (listB L D ++ (ordP (lens7 A) 19 ++ lensQ (lens7 A) (A.take 0)))) := by
            have e0 : ordP (lens7 A) 19 ++ lensQ (lens7 A) (A.take 0) = ordP (lens7 A) 19 := by unfold lensQ; rw [List.take_zero, List.map_nil, List.append_nil]
            rw [e0]; exact hoo
          clear hoo hlt hj19 hj9
          go_wp2_with fail
          go_loopw [12] (fun i wr => ∃ j : Nat, j ≤ nA ∧ i = .int .i64 j ∧ OutQ wr b (outP p (listB L D ++ (ordP (lens7 A) 19 ++ lensQ (lens7 A) (A.take j)))) ∧ LR wr b A (lens7 A) (some ⟨gA, 0, none⟩) (some ⟨g3, 0, none⟩) (some ⟨g4, 0, none⟩) ∧ KB b w wr) (fun i _ => nA - (intOf i).toNat)
          case atStart => exact ⟨0, by omega, rfl, hoo', hrr, hkk⟩
          case round =>
            obtain ⟨j, hj, rfl, ho1, hr1, hk1⟩ := hrel
            clear hoo' hrr hkk
            by_cases hlt : j < nA
            · have hjA : j < A.length := by rw [unhide HAn]; exact hlt
              have hst : Hid (outP p (listB L D ++ (ordP (lens7 A) 19 ++ lensQ (lens7 A) (A.take (j + 1)))) = outP (outP p (listB L D ++ (ordP (lens7 A) 19 ++ lensQ (lens7 A) (A.take j)))) [pcM (lens7 A) (A.getD j 0).toNat]) := by show _ = _; rw [lensQ_take (lens7 A) A j hjA, ← outP_append, List.append_assoc, List.append_assoc]
              have hbits := unhide Hlb (ordP (lens7 A) 19 ++ lensQ (lens7 A) (A.take j)) (by
                intro x hx
                rcases List.mem_append.1 hx with h | h
                · unfold ordP at h; obtain ⟨i, _, rfl⟩ := List.mem_map.1 h; simp
                · unfold lensQ at h
                  obtain ⟨y, hy, rfl⟩ := List.mem_map.1 h
                  have h1 := unhide HA y (List.mem_of_mem_take hy)
                  have h2 := (unhide HF).2.2 y.toNat (by omega)
                  show (lens7 A).getD y.toNat 0 ≤ 16
                  omega) (by rw [List.length_append, ordP_len _ _ (Nat.le_refl _)]; unfold lensQ; rw [List.length_map, List.length_take]; have := unhide HNA; omega)
              have hyb := unhide HA (A.getD j 0) (by simp [List.getD, hjA])
              obtain ⟨g, o, e, _, dd⟩ := irow_cell hr1.1 (k := j) hjA
              cases e
              rw [Nat.zero_add] at dd
              obtain ⟨q, hq⟩ := Int.eq_ofNat_of_zero_le hyb.1
              rw [hq] at dd hyb hst
              rw [Int.toNat_natCast] at hst
              have hgd := unhide HGd q (by rw [(unhide HF).1]; omega)
              have HPu := hide (sym_any b _ (some ⟨g3, 0, none⟩) (some ⟨g4, 0, none⟩) c3 19 19 q (lens7 A) wr ho1 (unhide HF).1 hr1.2.1.1 hr1.2.2.1 (by omega) (by omega) hgd.1 hgd.2 hbits)
              rw [← unhide hst] at HPu
              have HX := hide (And.intro hr1 hk1)
              have Hj := hide hlt
              clear ho1 hr1 hk1 hj hlt hjA hst hbits hyb hq hgd
              go_wp2_with fail
              refine (unhide HPu).mono ?_
              rintro e x9 ⟨rfl, o9, k9⟩
              have HY := hide (And.intro o9 (And.intro ((unhide HX).1.keep k9.2) ((unhide HX).2.trans k9)))
              clear o9 k9 HX HPu dd
              go_wp2
              go_roundw
              case rel => exact ⟨j + 1, by have := unhide Hj; omega, by go_num, (unhide HY).1, (unhide HY).2.1, (unhide HY).2.2⟩
              case measure => have := unhide Hj; simp [intOf]; omega
            · have hjn : A.take j = A := List.take_of_length_le (by rw [unhide HAn]; omega)
              rw [hjn, unhide HQ] at ho1
              have HY := hide (And.intro ho1 hk1)
              clear ho1 hr1 hk1 hjn
              go_wp2
              go_end0
              exact ⟨rfl, (unhide HY).1, (unhide HY).2⟩
end Go.Proofs.YtpmidjddjdejmaaGreatDoor
namespace Go.Proofs.YtpmidjddjdejmaaGreatDoor
open Go.RowKit Corb
theorem own_away {w : World} {base n cap : Nat} {a : Option Addr} {l : List Int} (hn : l.length = n) (h : IOwn w base (.slice a n cap) l) : NRow w w.heap.size a l := by
  refine ⟨h.rowN hn, fun h0 x ex => ?_⟩
  subst ex
  rcases h.2 with ⟨e, _⟩ | ⟨g, cap', cur, e, hbg, hg, _⟩
  · cases e
  · simp only [Value.slice.injEq, Option.some.injEq] at e
    obtain ⟨rfl, _⟩ := e
    refine ⟨by have := heap_lt hg; show g ≠ _; omega, fun cur' fr => ?_⟩
    show w.heap[g]? ≠ _
    rw [hg]
    intro e
    cases e
theorem kown_away {w : World} {base n cap : Nat} {a : Option Addr} {l : List Tk} (hn : l.length = n) (h : KOwn w base (.slice a n cap) l) : NKRow w w.heap.size a l := by
  refine ⟨h.rowN hn, fun h0 x ex => ?_⟩
  subst ex
  rcases h.2 with ⟨e, _⟩ | ⟨g, cap', cur, e, hbg, hg, _⟩
  · cases e
  · simp only [Value.slice.injEq, Option.some.injEq] at e
    obtain ⟨rfl, _⟩ := e
    refine ⟨by have := heap_lt hg; show g ≠ _; omega, fun cur' fr => ?_⟩
    show w.heap[g]? ≠ _
    rw [hg]
    intro e
    cases e
theorem fit15_any (g : Nat) (n : Nat) (l : List Int) (w : World) (hn : l.length = n) (h : IRow w (some ⟨g, 0, none⟩) l) (h1 : 1 ≤ n) (hm : n ≤ 300) (hc : okC l) (hU : us l ≤ 300) :
    Calls Tryz.prog 69 #[.slice (some ⟨g, 0, none⟩) n n, .int .i64 15] w fun e w' => (∃ v, e = .returned v ∧ IOwn w' w.heap.size v (fitL 15 l)) ∧ Below w.heap.size w w' :=
  l3Fit_any (some ⟨g, 0, none⟩) n n 14 l w hn h h1 hm hc (by rw [seed_usL]; have h2 := p2_14; omega) (by omega)
set_option maxRecDepth 100000 in
set_option maxHeartbeats 6400000 in
theorem l5Own_any (s : ByteArray) (w : World) (hs : s.size ≤ 300) :
    Calls Tryz.prog 37 #[.string s] w fun e w' => e = .returned (.string ⟨(ownT s).toArray⟩) ∧ Below w.heap.size w w' := by
  have HS := hide hs
  obtain ⟨T, hT⟩ : ∃ T, toksP s.data.toList 0 = T := ⟨_, rfl⟩
  have HTl : Hid (T.length ≤ 300) := by show _ ≤ _; rw [← hT]; exact toks_len s hs
  have HTo : Hid (∀ t ∈ T, okT t = true) := by rw [← hT]; exact toks_ok s
  have HOT : Hid (ownT s = textP (ownP T)) := by show ownT s = _; unfold ownT; rw [hT]
  have HTk := hide (l4Tokens_any s w (by omega))
  rw [hT] at HTk
  clear hs hT
  obtain ⟨tn, htn⟩ : ∃ tn, T.length = tn := ⟨_, rfl⟩
  have Htn := hide htn
  have HtI : Hid (tn ≤ 300) := by show _ ≤ _; rw [← htn]; exact unhide HTl
  clear htn
  go_enter Tryz.func37, Tryz.ntmps37
  go_wp2_with fail
  refine (unhide HTk).mono ?_
  rintro e x1 ⟨v1, rfl, o1, b1⟩
  obtain ⟨a1, c1, rfl⟩ := o1.formN (unhide Htn)
  have HCt := hide (l5Counts_any a1 c1 tn T x1 (unhide Htn) (o1.rowN (unhide Htn)) (unhide HtI) (unhide HTo))
  have O1 := hide o1
  have B1 := hide b1
  clear o1 b1 HTk
  go_wp2_with fail
  refine (unhide HCt).mono ?_
  rintro e x2 ⟨⟨gl, gd, rfl, o2, o3⟩, b2⟩
  have O1' := hide (row_later (unhide O1) b2)
  have B2 := hide (bnext (unhide B1) b2)
  have HL1 := hide (fit15_any gl 286 (litC T) x2 (litC_len T) (o2.rowN (litC_len T)) (by omega) (by omega) (litC_ok T (unhide HTl)) (by have := (litC_us T).2; omega))
  have O3 := hide (o3.mono (unhide B1).size)
  have hs12 : Hid (w.heap.size ≤ x2.heap.size) := (unhide B2).size
  clear o2 o3 b2 HCt O1 B1
  go_wp2_with fail
  refine (unhide HL1).mono ?_
  rintro e x3 ⟨⟨v3, rfl, o4⟩, b3⟩
  have hn2 := (litF T (unhide HTl)).1
  obtain ⟨a3, c3, rfl⟩ := o4.formN hn2
  obtain ⟨g3, rfl⟩ := o4.somes (by omega)
  have HC2 := hide (l5Last_any g3 0 c3 286 257 (fitL 15 (litC T)) x3 hn2 (fun i hi => by rw [Nat.zero_add]; exact (o4.at hn2 hi).1) o4.cap.1 (by omega) (by omega))
  have e2 : cutN (fitL 15 (litC T)) 257 286 = (ownL T).length := by unfold ownL; rw [cutL_len, hn2]
  rw [e2] at HC2
  have O4 : Hid (IOwn x3 w.heap.size (.slice (some ⟨g3, 0, none⟩) (ownL T).length c3) (ownL T)) := by
    have h9 := o4.cut (m := (ownL T).length) hn2 (by have := ownL_len T (unhide HTl); omega) (by omega)
    have e3 : (fitL 15 (litC T)).take (ownL T).length = ownL T := by rw [← e2]; unfold ownL cutL; rw [hn2]
    rw [e3] at h9
    exact h9.mono (unhide hs12)
  have O1 := hide (row_later (unhide O1') b3)
  have O3' := hide ((unhide O3).later b3 (Nat.le_refl _))
  have B3 := hide (bnext (unhide B2) b3)
  have HLl := hide (ownL_len T (unhide HTl))
  obtain ⟨nL, hnL⟩ : ∃ n, (ownL T).length = n := ⟨_, rfl⟩
  rw [hnL] at HC2 O4 HLl
  have HnL := hide hnL
  clear hnL e2 hn2 o4 b3 HL1 O3 B2 O1' hs12
  go_wp2_with fail
  refine (unhide HC2).mono ?_
  rintro e x4 ⟨rfl, hx4⟩
  rw [hx4]
  clear hx4 x4 HC2
  have HL2 := hide (fit15_any gd 30 (distC T) x3 (distC_len T) ((unhide O3').rowN (distC_len T)) (by omega) (by omega) (distC_ok T (unhide HTl)) (by have := (distC_us T).2; omega))
  go_wp2_with fail
  refine (unhide HL2).mono ?_
  rintro e x4 ⟨⟨v4, rfl, o5⟩, b4⟩
  have hn3 := (distF T (unhide HTl)).1
  obtain ⟨a4, c4, rfl⟩ := o5.formN hn3
  obtain ⟨g4, rfl⟩ := o5.somes (by omega)
  have HC3 := hide (l5Last_any g4 0 c4 30 1 (fitL 15 (distC T)) x4 hn3 (fun i hi => by rw [Nat.zero_add]; exact (o5.at hn3 hi).1) o5.cap.1 (by omega) (by omega))
  have e2 : cutN (fitL 15 (distC T)) 1 30 = (ownD T).length := by unfold ownD; rw [cutL_len, hn3]
  rw [e2] at HC3
  have O5 : Hid (IOwn x4 w.heap.size (.slice (some ⟨g4, 0, none⟩) (ownD T).length c4) (ownD T)) := by
    have h9 := o5.cut (m := (ownD T).length) hn3 (by have := ownD_len T (unhide HTl); omega) (by omega)
    have e3 : (fitL 15 (distC T)).take (ownD T).length = ownD T := by rw [← e2]; unfold ownD cutL; rw [hn3]
    rw [e3] at h9
    exact h9.mono (unhide B3).size
  have O1' := hide (row_later (unhide O1) b4)
  have O4' := hide ((unhide O4).later b4 (Nat.le_refl _))
  have B4 := hide (bnext (unhide B3) b4)
  have HDl := hide (ownD_len T (unhide HTl))
  obtain ⟨nD, hnD⟩ : ∃ n, (ownD T).length = n := ⟨_, rfl⟩
  rw [hnD] at HC3 O5 HDl
  have HnD := hide hnD
  clear hnD e2 hn3 o5 b4 HL2 O4 O1 O3' B3
  go_wp2_with fail
  refine (unhide HC3).mono ?_
  rintro e x5 ⟨rfl, hx5⟩
  rw [hx5]
  clear hx5 x5 HC3
  have h0 : Hid (OutQ (x4.alloc (.cells #[.slice none 0 0, .int .i64 0, .int .i64 0] 110)) x4.heap.size (0, 0)) := out_new x4 110
  have hB0 : Below x4.heap.size x4 (x4.alloc (.cells #[.slice none 0 0, .int .i64 0, .int .i64 0] 110)) := (Below.refl _ _).alloc (Nat.le_refl _) _
  have RL : Hid (NRow (x4.alloc (.cells #[.slice none 0 0, .int .i64 0, .int .i64 0] 110)) x4.heap.size (some ⟨g3, 0, none⟩) (ownL T)) := (own_away (unhide HnL) (unhide O4')).below hB0
  have RD : Hid (NRow (x4.alloc (.cells #[.slice none 0 0, .int .i64 0, .int .i64 0] 110)) x4.heap.size (some ⟨g4, 0, none⟩) (ownD T)) := (own_away (unhide HnD) (unhide O5)).below hB0
  have RT : Hid (NKRow (x4.alloc (.cells #[.slice none 0 0, .int .i64 0, .int .i64 0] 110)) x4.heap.size a1 T) := (kown_away (unhide Htn) (unhide O1')).keep (keep_below hB0)
  have HK0 : Hid (KB x4.heap.size x4 (x4.alloc (.cells #[.slice none 0 0, .int .i64 0, .int .i64 0] 110))) := (KB.refl _ _).below hB0 (Nat.le_refl _)
  clear hB0 O1' O4' O5
  go_wp2_with fail
  refine (putP_any _ _ 1 1 _ (unhide h0) (by decide) (by show (0 : Nat) ≤ _; omega)).mono ?_
  rintro e x6 ⟨rfl, o6, k6⟩
  have H6 := hide (And.intro o6 ((unhide HK0).trans k6))
  have RL6 := hide ((unhide RL).keep k6.2)
  have RD6 := hide ((unhide RD).keep k6.2)
  have RT6 := hide ((unhide RT).keep k6.2)
  clear o6 k6 h0 HK0 RL RD RT
  go_wp2_with fail
  refine (putP_any _ _ 2 2 _ (unhide H6).1 (by decide) (by show (1 : Nat) ≤ _; omega)).mono ?_
  rintro e x7 ⟨rfl, o7, k7⟩
  have H7 := hide (And.intro o7 ((unhide H6).2.trans k7))
  have RL7 := hide ((unhide RL6).keep k7.2)
  have RD7 := hide ((unhide RD6).keep k7.2)
  have RT7 := hide ((unhide RT6).keep k7.2)
  clear o7 k7 H6 RL6 RD6 RT6
  have HLe := hide (lensM_any x4.heap.size (outP (outP (0, 0) [(1, 1)]) [(2, 2)]) (some ⟨g3, 0, none⟩) (some ⟨g4, 0, none⟩) c3 nL c4 nD (ownL T) (ownD T) x7 (unhide H7).1 (unhide RL7).1 (unhide RD7).1 (unhide HnL) (unhide HnD) (unhide HLl).1 (unhide HLl).2 (unhide HDl).1 (unhide HDl).2 (ownL_ok T (unhide HTl)) (ownD_ok T (unhide HTl)) (by show (3 : Nat) ≤ 1000; omega))
  go_wp2_with fail
  refine (unhide HLe).mono ?_
  rintro e x8 ⟨rfl, o8, k8⟩
  have HV8 : Hid (outP (outP (outP (0, 0) [(1, 1)]) [(2, 2)]) (toldP (ownL T) (ownD T)) = outP (0, 0) ([(1, 1), (2, 2)] ++ toldP (ownL T) (ownD T))) := by
    show _ = _
    rw [← outP_append, ← outP_append]; rfl
  rw [unhide HV8] at o8
  have RL8 := (unhide RL7).keep k8.2
  have RD8 := (unhide RD7).keep k8.2
  have RT8 := (unhide RT7).keep k8.2
  have K8 := hide ((unhide H7).2.trans k8)
  have hOk2 := toldP_ok (ownL_ok T (unhide HTl)) (ownD_ok T (unhide HTl)) (by rw [unhide HnL]; exact (unhide HLl).1) (by rw [unhide HnL]; exact (unhide HLl).2) (by rw [unhide HnD]; exact (unhide HDl).1) (by rw [unhide HnD]; exact (unhide HDl).2)
  have hb8 : (outP (0, 0) ([(1, 1), (2, 2)] ++ toldP (ownL T) (ownD T))).2 ≤ 10000 := by
    have h1 := outP_bits (0, 0) ([(1, 1), (2, 2)] ++ toldP (ownL T) (ownD T)) (by
      intro x hx
      rcases List.mem_append.1 hx with h | h
      · simp at h; rcases h with rfl | rfl <;> simp
      · have h3 := hOk2.1
        unfold allOk at h3
        have := List.all_eq_true.1 h3 x h
        exact (pOk_true.1 this).1.2)
    rw [List.length_append] at h1
    have := hOk2.2
    simp only [List.length_cons, List.length_nil] at h1
    omega
  have HTk := hide (tokensM_any x4.heap.size _ a1 (some ⟨g3, 0, none⟩) (some ⟨g4, 0, none⟩) c1 tn c3 nL c4 nD T (ownL T) (ownD T) x8 o8 RT8 RL8 RD8 (unhide Htn) (unhide HnL) (unhide HnD) (by have := unhide HLl; omega) (by have := unhide HDl; omega) (good_of (ownL_ok T (unhide HTl))) (good_of (ownD_ok T (unhide HTl))) (by have := unhide HLl; omega) (by have := unhide HtI; omega) hb8 (fun t ht => ⟨unhide HTo t ht, own_fits T (unhide HTl) (unhide HTo) t ht⟩))
  have HVo : Hid (outP (outP (0, 0) ([(1, 1), (2, 2)] ++ toldP (ownL T) (ownD T))) (T.flatMap (pcTM (ownL T) (ownD T)) ++ [pcM (ownL T) 256]) = valP (ownP T)) := by
    show outP _ _ = _
    rw [← outP_append, List.append_assoc]; rfl
  rw [unhide HVo] at HTk
  have Hm : Hid ((valP (ownP T)).2 ≤ 90000) := by
    show _ ≤ _
    rw [← unhide HVo, outP_append]
    have h1 := flatM_bits (ownL T) (ownD T) T (outP (0, 0) ([(1, 1), (2, 2)] ++ toldP (ownL T) (ownD T))) (good_of (ownL_ok T (unhide HTl))) (good_of (ownD_ok T (unhide HTl))) (fun t ht => own_fits T (unhide HTl) (unhide HTo) t ht)
    have h2 := outP_bits (outP (outP (0, 0) ([(1, 1), (2, 2)] ++ toldP (ownL T) (ownD T))) (T.flatMap (pcTM (ownL T) (ownD T)))) [pcM (ownL T) 256] (fun x hx => by simp only [List.mem_cons, List.not_mem_nil, or_false] at hx; subst hx; have := (good_of (ownL_ok T (unhide HTl)) 256 (by have := unhide HnL; have := unhide HLl; omega)).1.2; show (ownL T).getD 256 0 ≤ 16; omega)
    have h3 := unhide HTl
    simp only [List.length_cons, List.length_nil] at h2
    omega
  clear o8 k8 RL8 RD8 RT8 hOk2 hb8 HLe RL7 RD7 RT7 H7 HV8
  go_wp2_with fail
  refine (unhide HTk).mono ?_
  rintro e x9 ⟨rfl, o9, k9⟩
  have K9 := hide ((unhide K8).trans k9).1
  have O9 := hide o9
  clear o9 k9 HTk K8
  go_wp2_with fail
  refine (wholeOut_any _ _ _ _ (unhide O9) (unhide Hm)).mono ?_
  rintro e x10 ⟨rfl, h7, b7⟩
  obtain ⟨_, v, Th, Y⟩ := h7
  have e8 : 8 * (((valP (ownP T)).2 + 7) / 8) / 8 = ((valP (ownP T)).2 + 7) / 8 := by omega
  rw [e8] at Y
  have Y' : Bys x10 x4.heap.size v (textP (ownP T)) := Y
  have hcv := conv_bytes Y'
  have HB := hide ((unhide K9).trans b7)
  obtain ⟨k0, k1, k2, f0, f1, f2, hbw⟩ := Th
  clear Y Y' e8 k1 k2 b7 O9
  generalize hR : textP (ownP T) = R at *
  have HR := hide hR
  clear hR
  go_wp2
  go_ret
  exact ⟨by rw [unhide HOT]; rfl, bnext (unhide B4) (unhide HB)⟩
end Go.Proofs.YtpmidjddjdejmaaGreatDoor
