/- Of what the proof is made: 11 texts, one behind the other. -/
import Derived.Test.YtgpghapnmalipaaGreatDoorFk3
import Derived.Test.YtgpghapnmalipaaGreatDoorFb4
import Derived.Test.YtgpghapnmalipaaGreatDoorTo2
import Derived.Deep.RegionHeld3
import Derived.Deep.DeepCutAuto
import Derived.Test.YtgpghapnmalipaaGreatDoorM15
import Derived.Test.YtgpghapnmalipaaGreatDoorM16
import Derived.Test.YtgpghapnmalipaaGreatDoorM2
import Derived.Test.YtgpghapnmalipaaGreatDoorM9
import Derived.Test.YtgpghapnmalipaaGreatDoorM19
import Derived.Test.YtgpghapnmalipaaGreatDoorFs4
import Derived.Test.YtgpghapnmalipaaGreatDoorM18
import Derived.Test.YtgpghapnmalipaaGreatDoorM10
namespace Go.Proofs.YtgpghapnmalipaaGreatDoor
open Go.RowKit Corb
def NKRow (w : World) (b : Nat) (a : Option Addr) (l : List Tk) : Prop := KRow w a l ∧ (0 < l.length → ∀ x, a = some x → x.block ≠ b ∧ ∀ cur fr, w.heap[x.block]? ≠ some (.cells cur 5 fr))
theorem NKRow.keep {w w' : World} {b : Nat} {a : Option Addr} {l : List Tk} (h : NKRow w b a l) (hk : Keep5 b w w') : NKRow w' b a l := by
  by_cases h0 : 0 < l.length
  · obtain ⟨g, o, e, hg, hc⟩ := h.1 h0
    obtain ⟨h1, h2⟩ := h.2 h0 _ e
    have hb := hk.2 g hg h1 h2
    refine ⟨fun _ => ⟨g, o, e, Nat.lt_of_lt_of_le hg hk.1, fun i hi => ?_⟩, fun _ x ex => ?_⟩
    · obtain ⟨c0, c1, c2⟩ := hc i hi
      exact ⟨by rw [← c0]; exact World.cell?_of_block (w := w) hb, by rw [← c1]; exact World.cell?_of_block (w := w) hb, by rw [← c2]; exact World.cell?_of_block (w := w) hb⟩
    · have : x = ⟨g, o, none⟩ := by rw [ex] at e; exact Option.some.inj e
      subst this
      exact ⟨h1, fun cur fr => by rw [hb]; exact h2 cur fr⟩
  · exact ⟨fun h => absurd h h0, fun h => absurd h h0⟩
theorem kown_nrow {w : World} {b base n cap : Nat} {a : Option Addr} {l : List Tk} (hn : l.length = n) (h : KOwn w base (.slice a n cap) l) (hb : b < base) : NKRow w b a l := by
  refine ⟨h.rowN hn, fun h0 x ex => ?_⟩
  subst ex
  rcases h.2 with ⟨e, _⟩ | ⟨g, cap', cur, e, hbg, hg, _⟩
  · cases e
  · simp only [Value.slice.injEq, Option.some.injEq] at e
    obtain ⟨rfl, _⟩ := e
    refine ⟨by show g ≠ b; omega, fun cur' fr => ?_⟩
    show w.heap[g]? ≠ _
    rw [hg]
    intro e
    cases e
def pcTM (L D : List Int) (t : Tk) : List (Int × Int) :=
  if isB t then [pcM L t.1.toNat]
  else [pcM L (257 + fnd 3 4 t.2.1.toNat 27), ((t.2.1.toNat : Int) - ((stF 3 4 (fnd 3 4 t.2.1.toNat 27)).1 : Int), ((stF 3 4 (fnd 3 4 t.2.1.toNat 27)).2 : Nat)), pcM D (fnd 1 2 t.2.2.toNat 29), ((t.2.2.toNat : Int) - ((stF 1 2 (fnd 1 2 t.2.2.toNat 29)).1 : Int), ((stF 1 2 (fnd 1 2 t.2.2.toNat 29)).2 : Nat))]
def RR (W : World) (b : Nat) (L D : List Int) (T : List Tk) (a a2 va vb vl vk at_ : Option Addr) : Prop :=
  (NRow W b a L ∧ NRow W b a2 D) ∧ (NRow W b va (outN L 15).2 ∧ NRow W b vb (outN D 15).2) ∧ (NRow W b vl longB ∧ NRow W b vk backB) ∧ NKRow W b at_ T
theorem RR.keep {W W' : World} {b : Nat} {L D : List Int} {T : List Tk} {a a2 va vb vl vk at_ : Option Addr} (h : RR W b L D T a a2 va vb vl vk at_) (hk : Keep5 b W W') : RR W' b L D T a a2 va vb vl vk at_ :=
  ⟨⟨h.1.1.keep hk, h.1.2.keep hk⟩, ⟨h.2.1.1.keep hk, h.2.1.2.keep hk⟩, ⟨h.2.2.1.1.keep hk, h.2.2.1.2.keep hk⟩, h.2.2.2.keep hk⟩
def goodL (l : List Int) : Prop := ∀ k, k < l.length → (0 ≤ l.getD k 0 ∧ l.getD k 0 ≤ 15) ∧ (0 ≤ (outN l 15).2.getD k 0 ∧ (outN l 15).2.getD k 0 < 65536)
theorem keep_below {b : Nat} {w w' : World} (h : Below w.heap.size w w') : Keep5 b w w' := ⟨h.size, fun k hk _ _ => h.block k hk⟩
theorem blk_keep {b g : Nat} {w w' : World} {cs : Array Value} {t : TypeId} (hk : Keep5 b w w') (h : w.heap[g]? = some (Obj.cells cs t)) (hg : g ≠ b) (ht : t ≠ 5) : w'.heap[g]? = some (Obj.cells cs t) := by
  refine (hk.2 g (heap_lt h) hg (fun cur fr => ?_)).trans h
  rw [h]
  intro e
  cases e
  exact ht rfl
theorem irow_cell {w : World} {b k : Nat} {a : Option Addr} {l : List Int} (h : NRow w b a l) (hk : k < l.length) : ∃ g o, a = some ⟨g, o, none⟩ ∧ g < w.heap.size ∧ w.cell? ⟨g, o + k, none⟩ = some (.int .i64 (l.getD k 0)) := by
  obtain ⟨g, o, e, hg, hc⟩ := h.1 (by omega)
  exact ⟨g, o, e, hg, hc k hk⟩
theorem stF_long (y : Nat) (h0 : 3 ≤ y) (h1 : y ≤ 60) : pOk ((y : Int) - ((stF 3 4 (fnd 3 4 y 27)).1 : Int)) ((stF 3 4 (fnd 3 4 y 27)).2 : Nat) = true := by
  have : (List.range 61).all (fun y => decide (y < 3) || pOk ((y : Int) - ((stF 3 4 (fnd 3 4 y 27)).1 : Int)) ((stF 3 4 (fnd 3 4 y 27)).2 : Nat)) = true := by decide +kernel
  have := List.all_eq_true.1 this y (List.mem_range.2 (by omega))
  simp only [Bool.or_eq_true, decide_eq_true_eq] at this
  rcases this with h | h
  · omega
  · exact h
theorem stF_back (z : Nat) (h0 : 1 ≤ z) (h1 : z ≤ 250) : pOk ((z : Int) - ((stF 1 2 (fnd 1 2 z 29)).1 : Int)) ((stF 1 2 (fnd 1 2 z 29)).2 : Nat) = true := by
  have : (List.range 251).all (fun z => decide (z < 1) || pOk ((z : Int) - ((stF 1 2 (fnd 1 2 z 29)).1 : Int)) ((stF 1 2 (fnd 1 2 z 29)).2 : Nat)) = true := by decide +kernel
  have := List.all_eq_true.1 this z (List.mem_range.2 (by omega))
  simp only [Bool.or_eq_true, decide_eq_true_eq] at this
  rcases this with h | h
  · omega
  · exact h
theorem outP_bits (p : Nat × Nat) (l : List (Int × Int)) (h : ∀ x ∈ l, x.2 ≤ 16) : (outP p l).2 ≤ p.2 + 16 * l.length := by
  unfold outP natP
  induction l generalizing p with
  | nil => simp [putV]
  | cons x r ih =>
    have h1 := h x (by simp)
    have h2 := ih (p.1 + x.1.toNat * 2 ^ p.2, p.2 + x.2.toNat) (fun y hy => h y (by simp [hy]))
    simp only [List.map_cons, putV, List.length_cons] at *
    omega
theorem pcTM_bits (L D : List Int) (t : Tk) (gL : goodL L) (gD : goodL D) (hf : fitsT L D t) : (∀ x ∈ pcTM L D t, x.2 ≤ 16) ∧ (pcTM L D t).length ≤ 4 := by
  unfold pcTM
  unfold fitsT at hf
  split
  · rename_i h
    rw [if_pos h] at hf
    refine ⟨fun x hx => ?_, by simp⟩
    simp only [List.mem_cons, List.not_mem_nil, or_false] at hx
    subst hx
    have := (gL _ hf).1.2
    show L.getD _ 0 ≤ 16
    omega
  · rename_i h
    rw [if_neg h] at hf
    refine ⟨fun x hx => ?_, by simp⟩
    simp only [List.mem_cons, List.not_mem_nil, or_false] at hx
    have s1 := stF_bd (L := 3) (G := 4) (k := fnd 3 4 t.2.1.toNat 27) (by omega) (by omega) (by omega) (by have := fnd_le 3 4 t.2.1.toNat 27; omega)
    have s2 := stF_bd (L := 1) (G := 2) (k := fnd 1 2 t.2.2.toNat 29) (by omega) (by omega) (by omega) (by have := fnd_le 1 2 t.2.2.toNat 29; omega)
    rcases hx with rfl | rfl | rfl | rfl
    · have := (gL _ hf.1).1.2; show L.getD _ 0 ≤ 16; omega
    · show ((_ : Nat) : Int) ≤ 16; omega
    · have := (gD _ hf.2).1.2; show D.getD _ 0 ≤ 16; omega
    · show ((_ : Nat) : Int) ≤ 16; omega
theorem flatM_bits (L D : List Int) (T : List Tk) (p : Nat × Nat) (gL : goodL L) (gD : goodL D) (hf : ∀ t ∈ T, fitsT L D t) : (outP p (T.flatMap (pcTM L D))).2 ≤ p.2 + 64 * T.length := by
  induction T generalizing p with
  | nil => simp [outP, natP, putV]
  | cons t r ih =>
    rw [List.flatMap_cons, outP_append]
    obtain ⟨h1, h2⟩ := pcTM_bits L D t gL gD (hf t (by simp))
    have h3 := outP_bits p (pcTM L D t) h1
    have h4 := ih (outP p (pcTM L D t)) (fun x hx => hf x (by simp [hx]))
    simp only [List.length_cons]
    omega
end Go.Proofs.YtgpghapnmalipaaGreatDoor
namespace Go.Proofs.YtgpghapnmalipaaGreatDoor
open Go.RowKit Corb
theorem l3Codes_v (a : Option Addr) (cap n : Nat) (l : List Int) (w : World) (hn : l.length = n) (h : IRow w a l) (hm : n ≤ 300) :
    Calls Tryz.prog 146 #[.slice a n cap] w fun e w' => (∃ g, e = .returned (.slice (some ⟨g, 0, none⟩) n n) ∧ IOwn w' w.heap.size (.slice (some ⟨g, 0, none⟩) n n) (outN l 15).2) ∧ Below w.heap.size w w' :=
  (l3Codes_any a cap n l w hn h hm).mono fun _ _ ⟨he, ho, hb⟩ => ⟨⟨_, he, ho⟩, hb⟩
theorem longBits_v (w : World) : Calls Tryz.prog 148 #[] w fun e w' => (∃ g, e = .returned (.slice (some ⟨g, 0, none⟩) 28 28) ∧ IOwn w' w.heap.size (.slice (some ⟨g, 0, none⟩) 28 28) longL) ∧ Below w.heap.size w w' :=
  (longBits_any w).mono fun _ _ ⟨he, ho, hb⟩ => ⟨⟨_, he, ho⟩, hb⟩
theorem backBits_v (w : World) : Calls Tryz.prog 149 #[] w fun e w' => (∃ g, e = .returned (.slice (some ⟨g, 0, none⟩) 30 30) ∧ IOwn w' w.heap.size (.slice (some ⟨g, 0, none⟩) 30 30) backL) ∧ Below w.heap.size w w' :=
  (backBits_any w).mono fun _ _ ⟨he, ho, hb⟩ => ⟨⟨_, he, ho⟩, hb⟩
theorem longB_len : longB.length = 28 := baseL_len _ _ _
theorem backB_len : backB.length = 30 := baseL_len _ _ _
set_option maxRecDepth 100000 in
set_option maxHeartbeats 6400000 in
theorem tokensM_any (b : Nat) (p : Nat × Nat) (ta a a2 : Option Addr) (tcap tn cap n cap2 n2 : Nat) (T : List Tk) (L D : List Int) (w : World) (ho : OutQ w b p) (hT : NKRow w b ta T) (hL : NRow w b a L) (hD : NRow w b a2 D)
    (htn : T.length = tn) (hn : L.length = n) (hn2 : D.length = n2) (hn3 : n ≤ 300) (hn4 : n2 ≤ 300) (gL : goodL L) (gD : goodL D) (h256 : 256 < n) (htm : (tn : Int) ≤ 300) (hp : p.2 ≤ 10000)
    (hok : ∀ t ∈ T, okT t = true ∧ fitsT L D t) :
    Calls Tryz.prog 119 #[.pointer (some ⟨b, 0, none⟩), .slice ta tn tcap, .slice a n cap, .slice a2 n2 cap2] w fun e w' => e = .returned (.tuple #[]) ∧ OutQ w' b (outP p (T.flatMap (pcTM L D) ++ [pcM L 256])) ∧ KB b w w' := by
  have hbw : b < w.heap.size := Out.lt ho
  have hmix : Tryz.prog.follows .mixedOrders = true := by kernel_rfl
  have HT := hide hT
  have HO := hide ho
  have HL := hide hL
  have HD := hide hD
  have Htn := hide htn
  have Hn := hide hn
  have Hn2 := hide hn2
  have Hn3 := hide hn3
  have Hn4 := hide hn4
  have HgL := hide gL
  have HgD := hide gD
  have H256 := hide h256
  have Hp := hide hp
  have Hok := hide hok
  have hnI : (n : Int) ≤ 300 := by omega
  have hnI2 : (n2 : Int) ≤ 300 := by omega
  clear hT ho hL hD htn hn hn2 hn3 hn4 gL gD h256 hp hok
  go_enter Tryz.func119, Tryz.ntmps119
  go_wp2_with fail
  refine (l3Codes_v a cap n L _ (unhide Hn) (unhide HL).1 (unhide Hn3)).mono ?_
  rintro e x1 ⟨⟨g1, rfl, o1⟩, b1⟩
  have N1 := hide (iown_nrow ((outN_len L 15).trans (unhide Hn)) o1 hbw)
  have B1 := hide b1
  clear o1 b1
  go_wp2_with fail
  refine (l3Codes_v a2 cap2 n2 D _ (unhide Hn2) ((unhide HD).below (unhide B1)).1 (unhide Hn4)).mono ?_
  rintro e x2 ⟨⟨g2, rfl, o2⟩, b2⟩
  have N2 := hide (iown_nrow ((outN_len D 15).trans (unhide Hn2)) o2 (Nat.lt_of_lt_of_le hbw (unhide B1).size))
  have N1' := hide ((unhide N1).below b2)
  have B2 := hide (bnext (unhide B1) b2)
  clear o2 b2 N1 B1
  go_wp2_with fail
  refine (longBits_v _).mono ?_
  rintro e x3 ⟨⟨g3, rfl, o3⟩, b3⟩
  have R3 := hide (o3.rowN rfl)
  have B3 := hide (bnext (unhide B2) b3)
  have N1 := hide ((unhide N1').below b3)
  have N2' := hide ((unhide N2).below b3)
  clear o3 b3 B2 N1' N2
  go_wp2_with fail
  refine (l5BaseLong_any _ 28 _ (unhide R3)).mono ?_
  rintro e x4 ⟨v4, rfl, o4, b4⟩
  obtain ⟨a4, c4, rfl⟩ := o4.formN longB_len
  have N4 := hide (iown_nrow longB_len o4 (Nat.lt_of_lt_of_le hbw (unhide B3).size))
  have B4 := hide (bnext (unhide B3) b4)
  have N1' := hide ((unhide N1).below b4)
  have N2 := hide ((unhide N2').below b4)
  clear o4 b4 B3 N1 N2' R3
  go_wp2_with fail
  refine (backBits_v _).mono ?_
  rintro e x5 ⟨⟨g5, rfl, o5⟩, b5⟩
  have R5 := hide (o5.rowN rfl)
  have B5 := hide (bnext (unhide B4) b5)
  have N1 := hide ((unhide N1').below b5)
  have N2' := hide ((unhide N2).below b5)
  have N4' := hide ((unhide N4).below b5)
  clear o5 b5 B4 N1' N2 N4
  go_wp2_with fail
  refine (l5BaseBack_any _ 30 _ (unhide R5)).mono ?_
  rintro e x6 ⟨v6, rfl, o6, b6⟩
  obtain ⟨a6, c6, rfl⟩ := o6.formN backB_len
  have N6 := hide (iown_nrow backB_len o6 (Nat.lt_of_lt_of_le hbw (unhide B5).size))
  have B6 := hide (bnext (unhide B5) b6)
  have HR6 : Hid (RR x6 b L D T a a2 (some ⟨g1, 0, none⟩) (some ⟨g2, 0, none⟩) a4 a6 ta) :=
    ⟨⟨(unhide HL).below (unhide B6), (unhide HD).below (unhide B6)⟩, ⟨(unhide N1).below b6, (unhide N2').below b6⟩, ⟨(unhide N4').below b6, unhide N6⟩, (unhide HT).keep (keep_below (unhide B6))⟩
  have HO6 : Hid (OutQ x6 b (outP p ((T.take 0).flatMap (pcTM L D)))) := Out.kept (unhide HO) (unhide B6)
  have HK6 : Hid (KB b w x6) := (KB.refl b w).below (unhide B6) (Nat.le_of_lt hbw)
  clear o6 b6 B5 N1 N2' N4' N6 R5 HT HO HL HD B6
  go_wp2_with fail
  go_loopw [12, 13, 14] (fun i _ _ wr => ∃ k : Nat, k ≤ tn ∧ i = .int .i64 k ∧ OutQ wr b (outP p ((T.take k).flatMap (pcTM L D))) ∧ RR wr b L D T a a2 (some ⟨g1, 0, none⟩) (some ⟨g2, 0, none⟩) a4 a6 ta ∧ KB b w wr) (fun i _ _ _ => tn - (intOf i).toNat)
  case atStart => exact ⟨0, Nat.zero_le _, rfl, unhide HO6, unhide HR6, unhide HK6⟩
  case round =>
    obtain ⟨k, hk, rfl, ho, hrr, hkb⟩ := hrel
    clear HO6 HR6 HK6
    have HO := hide ho
    have HRR := hide hrr
    have HKB := hide hkb
    have HK := hide hk
    have hbr : Hid (b < wr.heap.size) := Out.lt ho
    clear ho hkb hk
    by_cases hlt : k < tn
    · have hltI : (k : Int) < (tn : Int) := by omega
      obtain ⟨g, o, rfl, hg, hc⟩ := hrr.2.2.2.1 (by rw [unhide Htn]; omega)
      obtain ⟨c0, c1, c2⟩ := hc k (by rw [unhide Htn]; exact hlt)
      have Hstep : Hid ((T.take (k + 1)).flatMap (pcTM L D) = (T.take k).flatMap (pcTM L D) ++ pcTM L D (T.getD k k0)) := by
        show (T.take (k + 1)).flatMap (pcTM L D) = _
        rw [take_snocK T k (by rw [unhide Htn]; exact hlt)]
        simp
      obtain ⟨hokk, hfit⟩ := unhide Hok (T.getD k k0) (by simp [List.getD, show k < T.length by rw [unhide Htn]; exact hlt])
      have Hbits : Hid ((outP p ((T.take k).flatMap (pcTM L D))).2 ≤ 80000) := by
        show _ ≤ _
        have h1 := flatM_bits L D (T.take k) p (unhide HgL) (unhide HgD) (fun t ht => (unhide Hok t (List.mem_of_mem_take ht)).2)
        have h2 : (T.take k).length ≤ k := List.length_take_le _ _
        have h3 := unhide Hp
        omega
      clear hc hrr
      generalize T.getD k k0 = t at *
      have HPE : Hid (outP p ((T.take (k + 1)).flatMap (pcTM L D)) = outP (outP p ((T.take k).flatMap (pcTM L D))) (pcTM L D t)) := by
        show outP p _ = _
        rw [unhide Hstep, outP_append]
      generalize outP p ((T.take k).flatMap (pcTM L D)) = P at *
      have hbA : Below wr.heap.size wr (wr.alloc (.cells #[.int .i64 t.1, .int .i64 t.2.1, .int .i64 t.2.2] 232)) := (Below.refl _ _).alloc (Nat.le_refl _) _
      have HO1 : Hid (OutQ (wr.alloc (.cells #[.int .i64 t.1, .int .i64 t.2.1, .int .i64 t.2.2] 232)) b P) := Out.kept (unhide HO) hbA
      have HR1 := hide ((unhide HRR).keep (keep_below hbA))
      have HK1 := hide ((unhide HKB).below hbA (Nat.le_of_lt (unhide hbr)))
      have HB1 := hide (alloc_at wr (.cells #[.int .i64 t.1, .int .i64 t.2.1, .int .i64 t.2.2] 232))
      clear hbA HO HRR HKB
      cases hB : isB t
      · have hK : isK t = true := by unfold okT at hokk; rw [hB] at hokk; simpa using hokk
        obtain ⟨y0, y1, z0, z1⟩ := isK_bd hK
        have hx0 : t.1 = 0 := by unfold isK at hK; simp only [Bool.and_eq_true, decide_eq_true_eq] at hK; exact hK.1.1
        have hf2 : Hid (257 + fnd 3 4 t.2.1.toNat 27 < n ∧ fnd 1 2 t.2.2.toNat 29 < n2) := by
          have := hfit
          unfold fitsT at this
          rw [if_neg (by simp [hB]), unhide Hn, unhide Hn2] at this
          exact this
        have HPc : Hid (pcTM L D t = [pcM L (257 + fnd 3 4 t.2.1.toNat 27), ((t.2.1.toNat : Int) - ((stF 3 4 (fnd 3 4 t.2.1.toNat 27)).1 : Int), ((stF 3 4 (fnd 3 4 t.2.1.toNat 27)).2 : Nat)), pcM D (fnd 1 2 t.2.2.toNat 29), ((t.2.2.toNat : Int) - ((stF 1 2 (fnd 1 2 t.2.2.toNat 29)).1 : Int), ((stF 1 2 (fnd 1 2 t.2.2.toNat 29)).2 : Nat))]) := by
          show pcTM L D t = _; unfold pcTM; rw [if_neg (by simp [hB])]
        have hy : t.2.1 = ((t.2.1.toNat : Nat) : Int) := by omega
        have hz : t.2.2 = ((t.2.2.toNat : Nat) : Int) := by omega
        have hyN : 3 ≤ t.2.1.toNat ∧ t.2.1.toNat ≤ 60 := by omega
        have hzN : 1 ≤ t.2.2.toNat ∧ t.2.2.toNat ≤ 250 := by omega
        have Eok1 := hide (stF_long t.2.1.toNat hyN.1 hyN.2)
        have Eok2 := hide (stF_back t.2.2.toNat hzN.1 hzN.2)
        have Sy1 := hide (long_sym t.2.1.toNat hyN.1 hyN.2)
        have Sy2 := hide (back_sym t.2.2.toNat hzN.1 hzN.2)
        have hl1 := fnd_le 3 4 t.2.1.toNat 27
        have hl2 := fnd_le 1 2 t.2.2.toNat 29
        have At1 := hide (longB_at (fnd 3 4 t.2.1.toNat 27) (by omega))
        have At2 := hide (backB_at (fnd 1 2 t.2.2.toNat 29) (by omega))
        have Bt1 := hide (longL_at (fnd 3 4 t.2.1.toNat 27) (by omega))
        have Bt2 := hide (backL_at (fnd 1 2 t.2.2.toNat 29) (by omega))
        generalize stF 3 4 (fnd 3 4 t.2.1.toNat 27) = E at *
        generalize stF 1 2 (fnd 1 2 t.2.2.toNat 29) = E' at *
        generalize fnd 3 4 t.2.1.toNat 27 = f at *
        generalize fnd 1 2 t.2.2.toNat 29 = f' at *
        clear hB hK hokk hfit
        obtain ⟨tx, ty, tz⟩ := t
        simp only at hx0 y0 y1 z0 z1 hy hz hyN hzN c0 c1 c2 HR1 HK1 HO1 HB1 HPc Eok1 Eok2 Sy1 Sy2 HPE
        generalize ty.toNat = y at *
        generalize tz.toNat = z at *
        subst hx0 hy hz
        have hfI : (f : Int) < 28 := by omega
        have hfI' : (f' : Int) < 30 := by omega
        have hf28 : Hid (f < 28) := by show f < 28; omega
        have hf30 : Hid (f' < 30) := by show f' < 30; omega
        have hE1 := pOk_true.1 (unhide Eok1)
        have hE2 := pOk_true.1 (unhide Eok2)
        have e1a : 0 ≤ (y : Int) - (E.1 : Int) := hE1.2.1
        have e2a : 0 ≤ (z : Int) - (E'.1 : Int) := hE2.2.1
        have yI : (y : Int) ≤ 60 := by omega
        have zI : (z : Int) ≤ 250 := by omega
        have y3 : ¬ (y : Int) = 0 := by omega
        have hwr1 := wrap_id ((y : Int) - (E.1 : Int)) (by omega) (by omega)
        have hwr2 := wrap_id ((z : Int) - (E'.1 : Int)) (by omega) (by omega)
        clear hE1 hE2 hl1 hl2 hyN hzN
        obtain ⟨gl, ol, rfl, hgl, hcl⟩ := irow_cell (unhide HR1).2.2.1.1 (by rw [longB_len]; exact unhide hf28)
        obtain ⟨gk, ok, rfl, hgk, hck⟩ := irow_cell (unhide HR1).2.2.1.2 (by rw [backB_len]; exact unhide hf30)
        have HLs := hide (fun W (hR : NRow W b (some ⟨gl, ol, none⟩) longB) => l5Sym_any (some ⟨gl, ol, none⟩) c4 28 longB (y : Int) W longB_len hR.1 (by omega) (by omega))
        have HKs := hide (fun W (hR : NRow W b (some ⟨gk, ok, none⟩) backB) => l5Sym_any (some ⟨gk, ok, none⟩) c6 30 backB (z : Int) W backB_len hR.1 (by omega) (by omega))
        rw [unhide Sy1] at HLs
        rw [unhide Sy2] at HKs
        have hne : Hid (wr.heap.size ≠ b) := by show _ ≠ _; have := unhide hbr; omega
        clear hcl hck hgl hgk
        go_wp2_with fail
        refine (unhide HLs _ (unhide HR1).2.2.1.1).mono ?_
        rintro e w7 ⟨rfl, hw7⟩
        rw [hw7]
        clear hw7
        have eI : (257 : Int) + (f : Int) = ((257 + f : Nat) : Int) := by omega
        have HSy := hide (sym_any b P a (some ⟨g1, 0, none⟩) cap n n (257 + f) L _ (unhide HO1) (unhide Hn) (unhide HR1).1.1.1 (unhide HR1).2.1.1.1 (unhide hf2).1 (unhide Hn3) ((unhide HgL) _ (by rw [unhide Hn]; exact (unhide hf2).1)).1 ((unhide HgL) _ (by rw [unhide Hn]; exact (unhide hf2).1)).2 (by have := unhide Hbits; omega))
        rw [← eI] at HSy
        clear eI
        go_wp2_with fail
        refine (unhide HSy).mono ?_
        rintro e x7 ⟨rfl, h7, k7⟩
        have HO7 := hide h7
        have HR7 := hide ((unhide HR1).keep k7.2)
        have HK7 := hide ((unhide HK1).trans k7)
        have HB7 := hide (blk_keep k7.2 (unhide HB1) (unhide hne) (by decide))
        have Hp7 : Hid ((outP P [pcM L (257 + f)]).2 ≤ 80100) := by
          show _ ≤ _
          have h1 := outP_bits P [pcM L (257 + f)] (fun x hx => by simp only [List.mem_cons, List.not_mem_nil, or_false] at hx; subst hx; have := ((unhide HgL) (257 + f) (by rw [unhide Hn]; exact (unhide hf2).1)).1.2; show L.getD _ 0 ≤ 16; omega)
          have h2 := unhide Hbits
          simp only [List.length_cons, List.length_nil] at h1
          omega
        have HS7 : Hid (∀ W, Keep5 b x7 W → W.cell? ⟨wr.heap.size, 1, none⟩ = some (.int .i64 (y : Nat)) ∧ W.cell? ⟨gl, ol + f, none⟩ = some (.int .i64 (E.1 : Nat))) := by
          intro W hW
          refine ⟨blk_cell (blk_keep hW (unhide HB7) (unhide hne) (by decide)) 1, ?_⟩
          obtain ⟨g', o', e', _, hcc⟩ := irow_cell ((unhide HR7).2.2.1.1.keep hW) (k := f) (by rw [longB_len]; exact unhide hf28)
          simp only [Option.some.injEq, Addr.mk.injEq, and_true] at e'
          obtain ⟨rfl, rfl⟩ := e'
          rw [unhide At1] at hcc
          exact hcc
        have HPT := hide (fun W (hW : OutQ W b (outP P [pcM L (257 + f)])) => putP_any b (outP P [pcM L (257 + f)]) ((y : Int) - (E.1 : Int)) (E.2 : Nat) W hW (unhide Eok1) (by have := unhide Hp7; omega))
        clear h7 k7 HSy HO1 HR1 HK1 HB1
        go_wp2_with fail
        have hD7 : Below x7.heap.size x7 x7.drew := (Below.refl _ x7).drew
        go_cut [] (fun wx => OutQ wx b (outP (outP P [pcM L (257 + f)]) [((y : Int) - (E.1 : Int), (E.2 : Nat))]) ∧ KB b x7 wx)
        case first =>
          refine wp_region_held_drew (S := fun W => W.cell? ⟨wr.heap.size, 1, none⟩ = some (.int .i64 (y : Nat)) ∧ W.cell? ⟨gl, ol + f, none⟩ = some (.int .i64 (E.1 : Nat))) hmix (unhide HS7 _ (keep_below hD7)) (fun hS => ?_)
          refine wpAnyH_take (i := 0) (v := .pointer (some ⟨b, 0, none⟩)) rfl (by kernel_rfl) (by kernel_rfl) (by kernel_rfl) (fun _ _ _ h => h) (Or.inl ⟨by rfl, ?_⟩) hS ?_
          · intro W hSw
            obtain ⟨s0, s1⟩ := hSw
            go_simp
          refine wpAnyH_take (i := 1) (v := .pointer (some ⟨wr.heap.size, 1, none⟩)) rfl (by kernel_rfl) (by kernel_rfl) (by kernel_rfl) (fun _ _ _ h => h) (Or.inl ⟨by rfl, ?_⟩) hS ?_
          · intro W hSw
            obtain ⟨s0, s1⟩ := hSw
            go_simp
          refine wpAnyH_take (i := 2) (v := .int .i64 (y : Nat)) rfl (by kernel_rfl) (by kernel_rfl) (by kernel_rfl) (fun _ _ _ h => h) (Or.inl ⟨by rfl, ?_⟩) hS ?_
          · intro W hSw
            obtain ⟨s0, s1⟩ := hSw
            go_simp
          refine wpAnyH_take (i := 3) (v := .slice (some ⟨gl, ol, none⟩) 28 c4) rfl (by kernel_rfl) (by kernel_rfl) (by kernel_rfl) (fun _ _ _ h => h) (Or.inl ⟨by rfl, ?_⟩) hS ?_
          · intro W hSw
            obtain ⟨s0, s1⟩ := hSw
            go_simp
          refine wpAnyH_take (i := 4) (v := .int .i64 (f : Nat)) rfl (by kernel_rfl) (by kernel_rfl) (by kernel_rfl) (fun _ _ _ h => h) (Or.inl ⟨by rfl, ?_⟩) hS ?_
          · intro W hSw
            obtain ⟨s0, s1⟩ := hSw
            go_simp
          refine wpAnyH_take (i := 5) (v := .pointer (some ⟨gl, ol + f, none⟩)) rfl (by kernel_rfl) (by kernel_rfl) (by kernel_rfl) (fun _ _ _ h => h) (Or.inl ⟨by rfl, ?_⟩) hS ?_
          · intro W hSw
            obtain ⟨s0, s1⟩ := hSw
            go_simp
          refine wpAnyH_take (i := 6) (v := .int .i64 (E.1 : Nat)) rfl (by kernel_rfl) (by kernel_rfl) (by kernel_rfl) (fun _ _ _ h => h) (Or.inl ⟨by rfl, ?_⟩) hS ?_
          · intro W hSw
            obtain ⟨s0, s1⟩ := hSw
            go_simp
          refine wpAnyH_take (i := 7) (v := .int .i64 ((y : Int) - (E.1 : Int))) rfl (by kernel_rfl) (by kernel_rfl) (by kernel_rfl) (fun _ _ _ h => h) (Or.inl ⟨by rfl, ?_⟩) hS ?_
          · intro W hSw
            obtain ⟨s0, s1⟩ := hSw
            go_simp
          refine wpAnyH_take (i := 9) (v := .int .i64 (f : Nat)) rfl (by kernel_rfl) (by kernel_rfl) (by kernel_rfl) (fun _ _ _ h => h) (Or.inl ⟨by rfl, ?_⟩) hS ?_
          · intro W hSw
            obtain ⟨s0, s1⟩ := hSw
            go_simp
          refine wpAnyH_ready (rs := [8]) (by kernel_rfl) (by simp) ?_
          refine AllReadyH.cons rfl (fun Kk hKk => ?_) AllReadyH.nil
          go_simp
          go_at_call 148
          refine (longBits_v _).mono ?_
          rintro e x8 ⟨⟨g8, rfl, o8⟩, b8⟩
          have hb8 : Below x7.heap.size x7 x8 := bnext hD7 b8
          have hc8 := (o8.at rfl (unhide hf28)).1
          rw [unhide Bt1] at hc8
          have HO8 := hide (Out.kept (unhide HO7) hb8)
          clear o8 b8
          refine Shut.out hKk _ _ (unhide HS7 _ (keep_below hb8)) (fun hS2 => ?_)
          clear hKk Kk
          refine wpAnyH_ready (rs := [10]) (by kernel_rfl) (by simp) ?_
          refine AllReadyH.cons rfl (fun Kk hKk => ?_) AllReadyH.nil
          go_simp
          refine Shut.out hKk _ _ (unhide HS7 _ (keep_below hb8)) (fun _ => ?_)
          clear hKk Kk
          refine wpAnyH_ready (rs := [11]) (by kernel_rfl) (by simp) ?_
          refine AllReadyH.cons rfl (fun Kk hKk => ?_) AllReadyH.nil
          go_simp
          refine Shut.out hKk _ _ (unhide HS7 _ (keep_below hb8)) (fun _ => ?_)
          clear hKk Kk
          refine wpAnyH_ready (rs := [12]) (by kernel_rfl) (by simp) ?_
          refine AllReadyH.cons rfl (fun Kk hKk => ?_) AllReadyH.nil
          go_simp
          go_at_call 117
          refine (unhide HPT _ (unhide HO8)).mono ?_
          rintro e x9 ⟨rfl, h9, k9⟩
          have HX9 := hide (And.intro h9 (((KB.refl b x7).below hb8 (Nat.le_of_lt (Out.lt (unhide HO7)))).trans k9))
          refine Shut.out hKk _ _ (unhide HS7 _ ((keep_below hb8).trans k9.2)) (fun _ => ?_)
          clear hKk Kk h9 k9
          refine wpAnyH_done (by kernel_rfl) ?_ _
          go_wp2_with fail
          go_meet
          case rel => exact unhide HX9
        case rest =>
          obtain ⟨ho9, hk9⟩ := hcut
          have HO9 := hide ho9
          have HR9 := hide ((unhide HR7).keep hk9.2)
          have HK9 := hide ((unhide HK7).trans hk9)
          have HB9 := hide (blk_keep hk9.2 (unhide HB7) (unhide hne) (by decide))
          have Hp9 : Hid ((outP (outP P [pcM L (257 + f)]) [((y : Int) - (E.1 : Int), ((E.2 : Nat) : Int))]).2 ≤ 80200) := by
            show _ ≤ _
            have h1 := outP_bits (outP P [pcM L (257 + f)]) [((y : Int) - (E.1 : Int), ((E.2 : Nat) : Int))] (fun x hx => by simp only [List.mem_cons, List.not_mem_nil, or_false] at hx; subst hx; exact (pOk_true.1 (unhide Eok1)).1.2)
            have h2 := unhide Hp7
            simp only [List.length_cons, List.length_nil] at h1
            omega
          have HE : Hid (∀ r, outP P (pcM L (257 + f) :: ((y : Int) - (E.1 : Int), ((E.2 : Nat) : Int)) :: r) = outP (outP (outP P [pcM L (257 + f)]) [((y : Int) - (E.1 : Int), ((E.2 : Nat) : Int))]) r) := fun r => by
            show outP P _ = _
            rw [← outP_append, ← outP_append]; rfl
          generalize outP (outP P [pcM L (257 + f)]) [((y : Int) - (E.1 : Int), ((E.2 : Nat) : Int))] = P2 at *
          have hc2b := blk_cell (unhide HB9) 2
          simp at hc2b
          clear ho9 hk9 HO7 HR7 HK7 HB7 HS7 HPT hD7
          go_wp2_with fail
          refine (unhide HKs _ (unhide HR9).2.2.1.2).mono ?_
          rintro e w7 ⟨rfl, hw7⟩
          rw [hw7]
          clear hw7
          have HSy := hide (sym_any b P2 a2 (some ⟨g2, 0, none⟩) cap2 n2 n2 f' D _ (unhide HO9) (unhide Hn2) (unhide HR9).1.2.1 (unhide HR9).2.1.2.1 (unhide hf2).2 (unhide Hn4) ((unhide HgD) _ (by rw [unhide Hn2]; exact (unhide hf2).2)).1 ((unhide HgD) _ (by rw [unhide Hn2]; exact (unhide hf2).2)).2 (by have := unhide Hp9; omega))
          go_wp2_with fail
          refine (unhide HSy).mono ?_
          rintro e xa ⟨rfl, ha, ka⟩
          have HOa := hide ha
          have HRa := hide ((unhide HR9).keep ka.2)
          have HKa := hide ((unhide HK9).trans ka)
          have HBa := hide (blk_keep ka.2 (unhide HB9) (unhide hne) (by decide))
          have Hpa : Hid ((outP P2 [pcM D f']).2 ≤ 80300) := by
            show _ ≤ _
            have h1 := outP_bits P2 [pcM D f'] (fun x hx => by simp only [List.mem_cons, List.not_mem_nil, or_false] at hx; subst hx; have := ((unhide HgD) f' (by rw [unhide Hn2]; exact (unhide hf2).2)).1.2; show D.getD _ 0 ≤ 16; omega)
            have h2 := unhide Hp9
            simp only [List.length_cons, List.length_nil] at h1
            omega
          have HSa : Hid (∀ W, Keep5 b xa W → W.cell? ⟨wr.heap.size, 2, none⟩ = some (.int .i64 (z : Nat)) ∧ W.cell? ⟨gk, ok + f', none⟩ = some (.int .i64 (E'.1 : Nat))) := by
            intro W hW
            refine ⟨blk_cell (blk_keep hW (unhide HBa) (unhide hne) (by decide)) 2, ?_⟩
            obtain ⟨g', o', e', _, hcc⟩ := irow_cell ((unhide HRa).2.2.1.2.keep hW) (k := f') (by rw [backB_len]; exact unhide hf30)
            simp only [Option.some.injEq, Addr.mk.injEq, and_true] at e'
            obtain ⟨rfl, rfl⟩ := e'
            rw [unhide At2] at hcc
            exact hcc
          have HPTa := hide (fun W (hW : OutQ W b (outP P2 [pcM D f'])) => putP_any b (outP P2 [pcM D f']) ((z : Int) - (E'.1 : Int)) (E'.2 : Nat) W hW (unhide Eok2) (by have := unhide Hpa; omega))
          have HFin : Hid (outP (outP P2 [pcM D f']) [((z : Int) - (E'.1 : Int), ((E'.2 : Nat) : Int))] = outP P2 [pcM D f', ((z : Int) - (E'.1 : Int), ((E'.2 : Nat) : Int))]) := (outP_append P2 [pcM D f'] _).symm
          clear ha ka HSy HO9 HR9 HK9 HB9 hc2b
          go_wp2_with fail
          have hDa : Below xa.heap.size xa xa.drew := (Below.refl _ xa).drew
          refine wp_region_held_drew (S := fun W => W.cell? ⟨wr.heap.size, 2, none⟩ = some (.int .i64 (z : Nat)) ∧ W.cell? ⟨gk, ok + f', none⟩ = some (.int .i64 (E'.1 : Nat))) hmix (unhide HSa _ (keep_below hDa)) (fun hS => ?_)
          refine wpAnyH_take (i := 0) (v := .pointer (some ⟨b, 0, none⟩)) rfl (by kernel_rfl) (by kernel_rfl) (by kernel_rfl) (fun _ _ _ h => h) (Or.inl ⟨by rfl, ?_⟩) hS ?_
          · intro W hSw
            obtain ⟨s0, s1⟩ := hSw
            go_simp
          refine wpAnyH_take (i := 1) (v := .pointer (some ⟨wr.heap.size, 2, none⟩)) rfl (by kernel_rfl) (by kernel_rfl) (by kernel_rfl) (fun _ _ _ h => h) (Or.inl ⟨by rfl, ?_⟩) hS ?_
          · intro W hSw
            obtain ⟨s0, s1⟩ := hSw
            go_simp
          refine wpAnyH_take (i := 2) (v := .int .i64 (z : Nat)) rfl (by kernel_rfl) (by kernel_rfl) (by kernel_rfl) (fun _ _ _ h => h) (Or.inl ⟨by rfl, ?_⟩) hS ?_
          · intro W hSw
            obtain ⟨s0, s1⟩ := hSw
            go_simp
          refine wpAnyH_take (i := 3) (v := .slice (some ⟨gk, ok, none⟩) 30 c6) rfl (by kernel_rfl) (by kernel_rfl) (by kernel_rfl) (fun _ _ _ h => h) (Or.inl ⟨by rfl, ?_⟩) hS ?_
          · intro W hSw
            obtain ⟨s0, s1⟩ := hSw
            go_simp
          refine wpAnyH_take (i := 4) (v := .int .i64 (f' : Nat)) rfl (by kernel_rfl) (by kernel_rfl) (by kernel_rfl) (fun _ _ _ h => h) (Or.inl ⟨by rfl, ?_⟩) hS ?_
          · intro W hSw
            obtain ⟨s0, s1⟩ := hSw
            go_simp
          refine wpAnyH_take (i := 5) (v := .pointer (some ⟨gk, ok + f', none⟩)) rfl (by kernel_rfl) (by kernel_rfl) (by kernel_rfl) (fun _ _ _ h => h) (Or.inl ⟨by rfl, ?_⟩) hS ?_
          · intro W hSw
            obtain ⟨s0, s1⟩ := hSw
            go_simp
          refine wpAnyH_take (i := 6) (v := .int .i64 (E'.1 : Nat)) rfl (by kernel_rfl) (by kernel_rfl) (by kernel_rfl) (fun _ _ _ h => h) (Or.inl ⟨by rfl, ?_⟩) hS ?_
          · intro W hSw
            obtain ⟨s0, s1⟩ := hSw
            go_simp
          refine wpAnyH_take (i := 7) (v := .int .i64 ((z : Int) - (E'.1 : Int))) rfl (by kernel_rfl) (by kernel_rfl) (by kernel_rfl) (fun _ _ _ h => h) (Or.inl ⟨by rfl, ?_⟩) hS ?_
          · intro W hSw
            obtain ⟨s0, s1⟩ := hSw
            go_simp
          refine wpAnyH_take (i := 9) (v := .int .i64 (f' : Nat)) rfl (by kernel_rfl) (by kernel_rfl) (by kernel_rfl) (fun _ _ _ h => h) (Or.inl ⟨by rfl, ?_⟩) hS ?_
          · intro W hSw
            obtain ⟨s0, s1⟩ := hSw
            go_simp
          refine wpAnyH_ready (rs := [8]) (by kernel_rfl) (by simp) ?_
          refine AllReadyH.cons rfl (fun Kk hKk => ?_) AllReadyH.nil
          go_simp
          go_at_call 149
          refine (backBits_v _).mono ?_
          rintro e x8 ⟨⟨g8, rfl, o8⟩, b8⟩
          have hb8 : Below xa.heap.size xa x8 := bnext hDa b8
          have hc8 := (o8.at rfl (unhide hf30)).1
          rw [unhide Bt2] at hc8
          have HO8 := hide (Out.kept (unhide HOa) hb8)
          clear o8 b8
          refine Shut.out hKk _ _ (unhide HSa _ (keep_below hb8)) (fun hS2 => ?_)
          clear hKk Kk
          refine wpAnyH_ready (rs := [10]) (by kernel_rfl) (by simp) ?_
          refine AllReadyH.cons rfl (fun Kk hKk => ?_) AllReadyH.nil
          go_simp
          refine Shut.out hKk _ _ (unhide HSa _ (keep_below hb8)) (fun _ => ?_)
          clear hKk Kk
          refine wpAnyH_ready (rs := [11]) (by kernel_rfl) (by simp) ?_
          refine AllReadyH.cons rfl (fun Kk hKk => ?_) AllReadyH.nil
          go_simp
          refine Shut.out hKk _ _ (unhide HSa _ (keep_below hb8)) (fun _ => ?_)
          clear hKk Kk
          refine wpAnyH_ready (rs := [12]) (by kernel_rfl) (by simp) ?_
          refine AllReadyH.cons rfl (fun Kk hKk => ?_) AllReadyH.nil
          go_simp
          go_at_call 117
          refine (unhide HPTa _ (unhide HO8)).mono ?_
          rintro e x9 ⟨rfl, h9, k9⟩
          have HX9 := hide (And.intro h9 (((KB.refl b xa).below hb8 (Nat.le_of_lt (Out.lt (unhide HOa)))).trans k9))
          refine Shut.out hKk _ _ (unhide HSa _ ((keep_below hb8).trans k9.2)) (fun _ => ?_)
          clear hKk Kk h9 k9
          refine wpAnyH_done (by kernel_rfl) ?_ _
          have HX := hide (And.intro (unhide HX9).1 (And.intro ((unhide HRa).keep (unhide HX9).2.2) ((unhide HKa).trans (unhide HX9).2)))
          clear HX9
          go_wp2
          go_roundw
          case rel => exact ⟨k + 1, by omega, by go_num, by rw [unhide HPE, unhide HPc, unhide HE, ← unhide HFin]; exact (unhide HX).1, (unhide HX).2.1, (unhide HX).2.2⟩
          case measure => simp [intOf]; omega
      · obtain ⟨q1, q2⟩ := isB_bd hB
        have hfB : Hid (t.1.toNat < n) := by
          have := hfit
          unfold fitsT at this
          rw [if_pos hB, unhide Hn] at this
          exact this
        have HPc : Hid (pcTM L D t = [pcM L t.1.toNat]) := by show pcTM L D t = _; unfold pcTM; rw [if_pos hB]
        have hz0 : t.2.1 = 0 := by unfold isB at hB; simp only [Bool.and_eq_true, decide_eq_true_eq] at hB; exact hB.1
        have hx : t.1 = ((t.1.toNat : Nat) : Int) := by omega
        have HSy := hide (sym_any b P a (some ⟨g1, 0, none⟩) cap n n t.1.toNat L _ (unhide HO1) (unhide Hn) (unhide HR1).1.1.1 (unhide HR1).2.1.1.1 (unhide hfB) (unhide Hn3) ((unhide HgL) _ (by rw [unhide Hn]; exact unhide hfB)).1 ((unhide HgL) _ (by rw [unhide Hn]; exact unhide hfB)).2 (by have := unhide Hbits; omega))
        rw [← hx] at HSy
        generalize t.1.toNat = xN at *
        clear hB hokk hfit hx
        obtain ⟨tx, ty, tz⟩ := t
        simp only at hz0 q1 q2 c0 c1 c2 HSy HR1 HK1
        subst hz0
        go_wp2_with fail
        refine (unhide HSy).mono ?_
        rintro e x7 ⟨rfl, h7, k7⟩
        have HX := hide (And.intro h7 (And.intro ((unhide HR1).keep k7.2) ((unhide HK1).trans k7)))
        clear h7 k7 HSy
        go_wp2
        go_roundw
        case rel => exact ⟨k + 1, by omega, by go_num, by rw [unhide HPE, unhide HPc]; exact (unhide HX).1, (unhide HX).2.1, (unhide HX).2.2⟩
        case measure => simp [intOf]; omega
    · obtain rfl : k = tn := by have := unhide HK; omega
      have HPE : Hid (outP p (T.flatMap (pcTM L D) ++ [pcM L 256]) = outP (outP p ((T.take k).flatMap (pcTM L D))) [pcM L 256]) := by
        show outP p _ = _
        rw [List.take_of_length_le (by rw [unhide Htn]; exact Nat.le_refl _), outP_append]
      have Hbits : Hid ((outP p ((T.take k).flatMap (pcTM L D))).2 ≤ 80000) := by
        show _ ≤ _
        have h1 := flatM_bits L D (T.take k) p (unhide HgL) (unhide HgD) (fun t ht => (unhide Hok t (List.mem_of_mem_take ht)).2)
        have h2 : (T.take k).length ≤ k := List.length_take_le _ _
        have h3 := unhide Hp
        omega
      generalize outP p ((T.take k).flatMap (pcTM L D)) = P at *
      have HSy := hide (sym_any b P a (some ⟨g1, 0, none⟩) cap n n 256 L _ (unhide HO) (unhide Hn) (unhide HRR).1.1.1 (unhide HRR).2.1.1.1 (unhide H256) (unhide Hn3) ((unhide HgL) _ (by rw [unhide Hn]; exact unhide H256)).1 ((unhide HgL) _ (by rw [unhide Hn]; exact unhide H256)).2 (by have := unhide Hbits; omega))
      go_wp2_with fail
      refine (unhide HSy).mono ?_
      rintro e x7 ⟨rfl, h7, k7⟩
      have HX := hide (And.intro h7 ((unhide HKB).trans k7))
      clear h7 k7 HSy
      go_wp2
      go_end0
      exact ⟨rfl, by rw [unhide HPE]; exact (unhide HX).1, (unhide HX).2⟩
end Go.Proofs.YtgpghapnmalipaaGreatDoor
namespace Go.Proofs.YtgpghapnmalipaaGreatDoor
open Go.RowKit Corb
theorem code_ok {l : List Int} (h : lensOk l = true) {k : Nat} (hk : k < l.length) : pOk ((outN l 15).2.getD k 0) (l.getD k 0) = true := by
  have hb := inL_bd (lensOk_in h) hk
  rw [codes_get h hk]
  by_cases h1 : 1 ≤ l.getD k 0
  · rw [if_pos h1]
    have := (codeAt_lt h hk h1).1
    exact pOk_true.2 ⟨⟨hb.1, by omega⟩, by omega, by omega⟩
  · rw [if_neg h1]
    have e : l.getD k 0 = 0 := by omega
    rw [e]
    decide
theorem good_of {l : List Int} (h : lensOk l = true) : goodL l := by
  intro k hk
  have hb := inL_bd (lensOk_in h) hk
  obtain ⟨_, c0, c1⟩ := pOk_true.1 (code_ok h hk)
  refine ⟨hb, c0, ?_⟩
  have h1 : p2 (l.getD k 0).toNat ≤ p2 15 := Nat.pow_le_pow_right (by omega) (by omega)
  have h2 : p2 15 = 32768 := by decide
  omega
theorem pcS_pcM {l : List Int} (h : lensOk l = true) {k : Nat} (hk : k < l.length) : pcS l k = pcM l k := by
  unfold pcS pcM
  rw [btI_yes (code_ok h hk)]
theorem pcT_pcTM {L D : List Int} (hL : lensOk L = true) (hD : lensOk D = true) {t : Tk} (hf : fitsT L D t) : pcT L D t = pcTM L D t := by
  unfold pcT pcTM
  unfold fitsT at hf
  split
  · rename_i h
    rw [if_pos h] at hf
    rw [pcS_pcM hL hf]
  · rename_i h
    rw [if_neg h] at hf
    rw [pcS_pcM hL hf.1, pcS_pcM hD hf.2]
theorem flatPc_same {L D : List Int} (hL : lensOk L = true) (hD : lensOk D = true) (T : List Tk) (hf : ∀ t ∈ T, fitsT L D t) : T.flatMap (pcT L D) = T.flatMap (pcTM L D) := by
  induction T with
  | nil => rfl
  | cons t r ih => rw [List.flatMap_cons, List.flatMap_cons, pcT_pcTM hL hD (hf t (by simp)), ih (fun x hx => hf x (by simp [hx]))]
theorem pcTM_ok {L D : List Int} (gL : goodL L) (gD : goodL D) {t : Tk} (hk : okT t = true) (hf : fitsT L D t) : allOk (pcTM L D t) = true := by
  unfold pcTM
  unfold fitsT at hf
  unfold allOk
  split
  · rename_i h
    rw [if_pos h] at hf
    simp only [List.all_cons, List.all_nil, Bool.and_true]
    exact pcM_ok (gL _ hf).1
  · rename_i h
    rw [if_neg h] at hf
    have hK : isK t = true := by unfold okT at hk; simp only [Bool.or_eq_true] at hk; rcases hk with h' | h'; exact absurd h' h; exact h'
    obtain ⟨y0, y1, z0, z1⟩ := isK_bd hK
    simp only [List.all_cons, List.all_nil, Bool.and_true, Bool.and_eq_true]
    exact ⟨pcM_ok (gL _ hf.1).1, stF_long _ (by omega) (by omega), pcM_ok (gD _ hf.2).1, stF_back _ (by omega) (by omega)⟩
theorem flatM_ok {L D : List Int} (gL : goodL L) (gD : goodL D) (T : List Tk) (h : ∀ t ∈ T, okT t = true ∧ fitsT L D t) : allOk (T.flatMap (pcTM L D)) = true ∧ (T.flatMap (pcTM L D)).length ≤ 4 * T.length := by
  induction T with
  | nil => exact ⟨rfl, by simp⟩
  | cons t r ih =>
    obtain ⟨h1, h2⟩ := ih (fun x hx => h x (by simp [hx]))
    obtain ⟨h3, h4⟩ := h t (by simp)
    have h5 := (pcTM_bits L D t gL gD h4).2
    refine ⟨?_, by simp only [List.flatMap_cons, List.length_append, List.length_cons]; omega⟩
    have h6 := pcTM_ok gL gD h3 h4
    unfold allOk at *
    rw [List.flatMap_cons, List.all_append, h6, h1]; rfl
theorem toksP_okT (L : List UInt8) : ∀ n p, L.length - p ≤ n → ∀ t ∈ toksP L p, okT t = true := by
  intro n
  induction n with
  | zero =>
    intro p hp t ht
    rw [toksP_end (by omega)] at ht
    cases ht
  | succ n ih =>
    intro p hp t ht
    by_cases h : p < L.length
    · rw [toksP_step h] at ht
      rcases List.mem_cons.1 ht with rfl | ht
      · exact tokP_ok L p
      · exact ih (p + sizP L p) (by have := (sizP_pos L p).1; omega) t ht
    · rw [toksP_end h] at ht
      cases ht
theorem toks_ok (s : ByteArray) : ∀ t ∈ toksP s.data.toList 0, okT t = true := toksP_okT s.data.toList s.data.toList.length 0 (by omega)
def knowD : List Int := List.replicate 32 5
theorem know_okL : lensOk (fixL 288) = true := by decide +kernel
theorem know_okD : lensOk knowD = true := by decide +kernel
theorem know_fits {t : Tk} (_ : okT t = true) : fitsT (fixL 288) knowD t := by
  unfold fitsT
  split
  · rename_i hB
    have := isB_bd hB
    rw [fixL_len]; omega
  · have h1 := fnd_le 3 4 t.2.1.toNat 27
    have h2 := fnd_le 1 2 t.2.2.toNat 29
    rw [fixL_len]
    exact ⟨by omega, by show _ < (List.replicate 32 (5 : Int)).length; rw [List.length_replicate]; omega⟩
def fixP (s : ByteArray) : List (Int × Int) := [(1, 1), (1, 2)] ++ ((toksP s.data.toList 0).flatMap (pcTM (fixL 288) knowD) ++ [pcM (fixL 288) 256])
theorem toks_len (s : ByteArray) (hs : s.size ≤ 300) : (toksP s.data.toList 0).length ≤ 300 := by
  have h2 := toksP_len s.data.toList s.data.toList.length 0 (by omega)
  have h3 : s.data.toList.length = s.size := by simp
  omega
theorem fixP_ok (s : ByteArray) (hs : s.size ≤ 300) : lOk (fixP s) = true := by
  obtain ⟨h1, h2⟩ := flatM_ok (good_of know_okL) (good_of know_okD) (toksP s.data.toList 0) (fun t ht => ⟨toks_ok s t ht, know_fits (toks_ok s t ht)⟩)
  have h3 := toks_len s hs
  have h4 : pOk (pcM (fixL 288) 256).1 (pcM (fixL 288) 256).2 = true := pcM_ok (good_of know_okL 256 (by rw [fixL_len]; omega)).1
  unfold lOk
  have h5 : allOk (fixP s) = true := by
    unfold fixP
    unfold allOk at *
    rw [List.all_append, List.all_append, h1]
    simp only [List.all_cons, List.all_nil, h4]
    decide
  have h6 : (fixP s).length ≤ 4000 := by unfold fixP; simp only [List.length_append, List.length_cons, List.length_nil]; omega
  rw [h5]; simpa using h6
def knownL (s : ByteArray) : List UInt8 := textP (fixP s)
set_option maxHeartbeats 1600000 in
theorem l5Known_any (s : ByteArray) (w : World) (hs : s.size ≤ 300) :
    Calls Tryz.prog 87 #[.string s] w fun e w' => e = .returned (.string ⟨(knownL s).toArray⟩) ∧ Below w.heap.size w w' := by
  have h0 : Hid (OutQ (w.alloc (.cells #[.slice none 0 0, .int .i64 0, .int .i64 0] 200)) w.heap.size (0, 0)) := out_new w 200
  have hB0 : Hid (KB w.heap.size w (w.alloc (.cells #[.slice none 0 0, .int .i64 0, .int .i64 0] 200))) := (KB.refl _ _).below ((Below.refl _ _).alloc (Nat.le_refl _) _) (Nat.le_refl _)
  have HS := hide hs
  have HV : Hid (outP (outP (outP (0, 0) [(1, 1)]) [(1, 2)]) ((toksP s.data.toList 0).flatMap (pcTM (fixL 288) knowD) ++ [pcM (fixL 288) 256]) = valP (fixP s)) := by
    show outP _ _ = _
    rw [← outP_append, ← outP_append]; rfl
  have Hm : Hid ((valP (fixP s)).2 ≤ 90000) := by
    show _ ≤ _
    rw [← unhide HV, outP_append]
    have h1 := flatM_bits (fixL 288) knowD (toksP s.data.toList 0) (outP (outP (0, 0) [(1, 1)]) [(1, 2)]) (good_of know_okL) (good_of know_okD) (fun t ht => know_fits (toks_ok s t ht))
    have h2 := outP_bits (outP (outP (outP (0, 0) [(1, 1)]) [(1, 2)]) ((toksP s.data.toList 0).flatMap (pcTM (fixL 288) knowD))) [pcM (fixL 288) 256] (fun x hx => by simp only [List.mem_cons, List.not_mem_nil, or_false] at hx; subst hx; have := (good_of know_okL 256 (by rw [fixL_len]; omega)).1.2; show (fixL 288).getD 256 0 ≤ 16; omega)
    have h3 := toks_len s hs
    have h4 : (outP (outP (0, 0) [(1, 1)]) [(1, 2)]).2 = 3 := rfl
    simp only [List.length_cons, List.length_nil] at h2
    omega
  clear hs
  go_enter Tryz.func87, Tryz.ntmps87
  go_wp2_with fail
  refine (putP_any _ _ 1 1 _ (unhide h0) (by decide) (by show (0 : Nat) ≤ _; omega)).mono ?_
  rintro e x1 ⟨rfl, o1, k1⟩
  have H1 := hide (And.intro o1 ((unhide hB0).trans k1))
  clear o1 k1 h0 hB0
  go_wp2_with fail
  refine (putP_any _ _ 1 2 _ (unhide H1).1 (by decide) (by show (1 : Nat) ≤ _; omega)).mono ?_
  rintro e x2 ⟨rfl, o2, k2⟩
  have H2 := hide (And.intro o2 ((unhide H1).2.trans k2))
  have hl2 : Hid (w.heap.size < x2.heap.size) := Out.lt o2
  clear o2 k2 H1
  go_wp2_with fail
  refine (l4Tokens_any s _ (by have := unhide HS; omega)).mono ?_
  rintro e x3 ⟨v3, rfl, o3, b3⟩
  obtain ⟨tn, htn⟩ : ∃ tn, (toksP s.data.toList 0).length = tn := ⟨_, rfl⟩
  obtain ⟨a3, c3, rfl⟩ := o3.formN htn
  have N3 := hide (kown_nrow htn o3 (unhide hl2))
  have B3 := hide b3
  clear o3 b3
  go_wp2_with fail
  refine (l5Fixed_any _).mono ?_
  rintro e x4 ⟨v4, rfl, o4, b4⟩
  obtain ⟨a4, c4, rfl⟩ := o4.formN (fixL_len 288)
  have N4 := hide (iown_nrow (fixL_len 288) o4 (Nat.lt_of_lt_of_le (unhide hl2) (unhide B3).size))
  have N3' := hide ((unhide N3).keep (keep_below b4))
  have B4 := hide (bnext (unhide B3) b4)
  clear o4 b4 N3 B3
  go_wp2_with fail
  refine (l5Fives_any _).mono ?_
  rintro e x5 ⟨v5, rfl, o5, b5⟩
  have hn5 : (List.replicate 32 (5 : Int)).length = 32 := List.length_replicate
  obtain ⟨a5, c5, rfl⟩ := o5.formN hn5
  have N5 := hide (iown_nrow hn5 o5 (Nat.lt_of_lt_of_le (unhide hl2) (unhide B4).size))
  have N3 := hide ((unhide N3').keep (keep_below b5))
  have N4' := hide ((unhide N4).below b5)
  have B5 := hide (bnext (unhide B4) b5)
  have O5 := hide (Out.kept (unhide H2).1 (unhide B5))
  have K5 := hide ((unhide H2).2.below (unhide B5) (Nat.le_of_lt (unhide hl2)))
  have htI : Hid ((tn : Int) ≤ 300) := by show (tn : Int) ≤ 300; have := toks_len s (unhide HS); omega
  have HTk := hide (tokensM_any w.heap.size (outP (outP (0, 0) [(1, 1)]) [(1, 2)]) a3 a4 a5 c3 tn c4 288 c5 32 (toksP s.data.toList 0) (fixL 288) knowD x5 (unhide O5) (unhide N3) (unhide N4') (unhide N5) htn (fixL_len 288) hn5 (by omega) (by omega) (good_of know_okL) (good_of know_okD) (by omega) (unhide htI) (by show (3 : Nat) ≤ 10000; omega) (fun t ht => ⟨toks_ok s t ht, know_fits (toks_ok s t ht)⟩))
  rw [unhide HV] at HTk
  clear o5 b5 N3' N4 N5 B4 hn5 htn
  go_wp2_with fail
  refine (unhide HTk).mono ?_
  rintro e x6 ⟨rfl, o6, k6⟩
  have K6 := hide ((unhide K5).trans k6).1
  have O6 := hide o6
  clear o6 k6 HTk N3 N4' O5 K5 B5 H2
  go_wp2_with fail
  refine (wholeOut_any _ _ _ _ (unhide O6) (unhide Hm)).mono ?_
  rintro e x7 ⟨rfl, h7, b7⟩
  obtain ⟨_, v, T, Y⟩ := h7
  have e8 : 8 * (((valP (fixP s)).2 + 7) / 8) / 8 = ((valP (fixP s)).2 + 7) / 8 := by omega
  rw [e8] at Y
  have Y' : Bys x7 w.heap.size v (knownL s) := Y
  have hcv := conv_bytes Y'
  have HB := hide ((unhide K6).trans b7)
  obtain ⟨k0, k1, k2, f0, f1, f2, hbw⟩ := T
  clear Y Y' e8 k1 k2 b7 O6
  generalize hR : knownL s = R at *
  have HR := hide hR
  clear hR
  go_wp2
  go_ret
  exact ⟨by rw [unhide HR]; rfl, unhide HB⟩
def fixedL (s : ByteArray) : List UInt8 := if s.size ≤ 300 then knownL s else []
theorem fixP_same (s : ByteArray) : [(1, 1), (1, 2)] ++ ((toksP s.data.toList 0).flatMap (pcT (fixL 288) knowD) ++ [pcS (fixL 288) 256]) = fixP s := by
  unfold fixP
  rw [flatPc_same know_okL know_okD _ (fun t ht => know_fits (toks_ok s t ht)), pcS_pcM know_okL (by rw [fixL_len]; omega)]
theorem pcs_cells {w : World} {base n cap : Nat} {a : Option Addr} {l : List (Int × Int)} (hn : l.length = n) (h : Pcs w base (.slice a n cap) l) (h0 : 0 < n) : ∃ g, a = some ⟨g, 0, none⟩ ∧ ∀ (j : Nat) (u : Value), (pcells l)[j]? = some u → w.cell? ((⟨g, 0, none⟩ : Addr).add j) = some u := by
  rcases h.2 with ⟨_, e⟩ | ⟨g, cap', cur, e, _⟩
  · omega
  · simp only [Value.slice.injEq] at e
    obtain ⟨rfl, _, rfl⟩ := e
    exact ⟨g, rfl, World.ownsRow.cells h rfl⟩
set_option maxHeartbeats 1600000 in
theorem implFixed_any (s : ByteArray) (w : World) (hs : s.size ≤ 300) :
    Calls Tryz.prog 49 #[.string s] w fun e w' => e = .returned (.string ⟨(knownL s).toArray⟩) ∧ Below w.heap.size w w' := by
  obtain ⟨i0, hi, hz0, hz1, hz2⟩ := info_parts Tryz.infoPiece
  have hsI : (s.size : Int) ≤ 300 := by omega
  have hI : ¬ (300 : Int) < (s.size : Int) := by omega
  have hP0 : Hid ((w.alloc (.cells #[.int .i64 1, .int .i64 1, .int .i64 1, .int .i64 2] 112)).ownsRow w.heap.size 112 2 (.slice (some ⟨w.heap.size, 0, none⟩) 2 2) 2 [.int .i64 1, .int .i64 1, .int .i64 1, .int .i64 2]) := World.ownsRow_lit w #[.int .i64 1, .int .i64 1, .int .i64 1, .int .i64 2] 2 (Nat.le_refl _) (by unfold maxLen; omega) rfl
  have hB0 : Hid (Below w.heap.size w (w.alloc (.cells #[.int .i64 1, .int .i64 1, .int .i64 1, .int .i64 2] 112))) := (Below.refl _ _).alloc (Nat.le_refl _) _
  have HS := hide hs
  have HE := hide (fixP_same s)
  have HP : Hid (putS (fixP s) = knownL s) := putS_yes (fixP_ok s hs)
  have HLn : Hid ((fixP s).length ≤ 4000) := by
    have := fixP_ok s hs
    unfold lOk at this
    simp only [Bool.and_eq_true, decide_eq_true_eq] at this
    exact this.2
  clear hs
  go_enter Tryz.func49, Tryz.ntmps49
  go_wp2_with fail
  refine (flateHead_any 1 w).mono ?_
  rintro e x1 ⟨rfl, hx1⟩
  have h1P := hide (show x1.ownsRow w.heap.size 112 2 (.slice (some ⟨w.heap.size, 0, none⟩) 2 2) 2 [.int .i64 1, .int .i64 1, .int .i64 1, .int .i64 2] by rw [hx1]; exact unhide hP0)
  have h1B := hide (show Below w.heap.size w x1 by rw [hx1]; exact unhide hB0)
  clear hx1 hP0 hB0
  go_wp2_with fail
  refine (fixedBooks_any _).mono ?_
  rintro e x2 ⟨⟨C, rfl, hBk⟩, hb2⟩
  have h2P := hide (row_later (unhide h1P) hb2)
  have h2B := hide (bnext (unhide h1B) hb2)
  have HBk := hide hBk
  clear hBk hb2 h1P h1B
  go_wp2_with fail
  refine (putAll_any s _ (fixL 288) knowD C _ (unhide HS) (unhide HBk) (by rw [fixL_len]; omega) (by show (List.replicate 32 (5 : Int)).length ≤ 300; rw [List.length_replicate]; omega) (by rw [fixL_len]; omega) (fun t ht => know_fits (toks_ok s t ht))).mono ?_
  rintro e x3 ⟨v, rfl, hp3, hb3⟩
  have h3P := hide (row_later (unhide h2P) hb3)
  have h3B := hide (bnext (unhide h2B) hb3)
  clear hb3 h2P h2B HBk
  generalize hR : (toksP s.data.toList 0).flatMap (pcT (fixL 288) knowD) ++ [pcS (fixL 288) 256] = R at *
  have hR0 : 0 < R.length := by rw [← hR]; simp
  obtain ⟨m, hm⟩ : ∃ m, R.length = m := ⟨_, rfl⟩
  obtain ⟨va, vc, rfl⟩ : ∃ a cap, v = .slice a m cap := by
    rcases hp3.2 with ⟨_, h0⟩ | ⟨g, cap, _, e, _⟩
    · omega
    · exact ⟨_, cap, by rw [← hm]; exact e⟩
  obtain ⟨g3, rfl, hc3⟩ := pcs_cells hm hp3 (by omega)
  have HC3 := hide hc3
  have Hm := hide hm
  have bd : Hid (2 + m ≤ maxLen ∧ (2 + m) * 16 ≤ 140737488355328) := by
    show _ ∧ _
    have h1 := unhide HLn
    rw [← unhide HE, List.length_append, hm] at h1
    unfold maxLen; simp only [List.length_cons, List.length_nil] at h1; omega
  have hbs := (unhide h3B).size
  clear hR hR0 hp3 hc3 hm
  go_wp2_with (at_builtin; refine wpList_append_own _ rfl _ _ 109 rfl w.heap.size 112 i0 (.agg #[.int .i64 0, .int .i64 0]) 2 16 Tryz.underlying109 hi hz0 hz1 hz2 rfl (by decide) (.slice (some ⟨w.heap.size, 0, none⟩) 2 2) _ _ rfl (unhide h3P) ⟨g3, 0, none⟩ m vc (pcells R) rfl (by rw [pcells_len, unhide Hm]) (unhide HC3) (pcells_one R) (unhide bd).1 (unhide bd).2 hbs ?_; intro v' x4 hown hgrow hnil; clear hnil)
  have hX : ([.int .i64 1, .int .i64 1, .int .i64 1, .int .i64 2] : List Value) ++ pcells R = pcells (fixP s) := by rw [← unhide HE, pcells_append]; rfl
  have hN : 2 + m = (fixP s).length := by rw [← unhide HE, List.length_append, unhide Hm]; rfl
  rw [hX, hN] at hown
  have hP4 : Pcs x4 w.heap.size v' (fixP s) := hown
  obtain ⟨a4, c4, rfl⟩ := hP4.form
  have hb4 : Below w.heap.size w x4 := (unhide h3B).grown hgrow hbs (fun j hj => (World.ownsRow.lt (unhide h3P) j hj).1)
  refine (implBitsPut_any a4 c4 (fixP s) _ hP4.row (by have := unhide HLn; omega)).mono ?_
  rintro e x5 ⟨rfl, hb5⟩
  rw [unhide HP]
  have HB5 := hide (bnext hb4 hb5)
  clear hX hN hown hP4 hb4 hb5 hgrow
  generalize hR : knownL s = Q at *
  have HR := hide hR
  clear hR
  go_wp2
  go_ret
  exact ⟨by rw [unhide HR]; rfl, unhide HB5⟩
theorem implFixedPut_any (s : ByteArray) (w : World) (hs : s.size ≤ 1048576) :
    Calls Tryz.prog 49 #[.string s] w fun e w' => e = .returned (.string ⟨(fixedL s).toArray⟩) ∧ Below w.heap.size w w' := by
  have hsI : (s.size : Int) ≤ 1048576 := by omega
  by_cases h : s.size ≤ 300
  · have HF : Hid (fixedL s = knownL s) := if_pos h
    rw [unhide HF]
    exact implFixed_any s w h
  · have hI : (300 : Int) < (s.size : Int) := by omega
    have HF : Hid (fixedL s = []) := if_neg h
    clear h
    go_enter Tryz.func49, Tryz.ntmps49
    go_wp2
    go_ret
    exact ⟨by rw [unhide HF]; rfl, Below.refl _ _⟩
end Go.Proofs.YtgpghapnmalipaaGreatDoor
namespace Go.Proofs.YtgpghapnmalipaaGreatDoor
open Go.RowKit Corb
def byS (s : ByteArray) : ByteArray := ⟨(storeL s.data.toList).toArray⟩
def byF (s : ByteArray) : ByteArray := ⟨(fixedL s).toArray⟩
theorem byS_long (s : ByteArray) (h : ¬ s.size ≤ 300) : byS s = ⟨#[]⟩ := by
  have : storeL s.data.toList = [] := by unfold storeL; rw [if_neg (by rw [str_len]; exact h)]
  unfold byS; rw [this]
theorem byF_long (s : ByteArray) (h : ¬ s.size ≤ 300) : byF s = ⟨#[]⟩ := by unfold byF fixedL; rw [if_neg h]
end Go.Proofs.YtgpghapnmalipaaGreatDoor
namespace Go.Proofs.YtgpghapnmalipaaGreatDoor
open Go.RowKit Corb
def inc (o : List Int) (k : Nat) : List Int := o.set k (o.getD k 0 + 1)
def incs (o : List Int) (s : List Nat) : List Int := s.foldl inc o
theorem inc_len (o : List Int) (k : Nat) : (inc o k).length = o.length := by simp [inc]
theorem incs_len (o : List Int) (s : List Nat) : (incs o s).length = o.length := by
  induction s generalizing o with
  | nil => rfl
  | cons x s ih => show (incs (inc o x) s).length = _; rw [ih, inc_len]
theorem incs_snoc (o : List Int) (s : List Nat) (x : Nat) : incs o (s ++ [x]) = inc (incs o s) x := by simp [incs]
theorem inc_get (o : List Int) (k j : Nat) : (inc o k).getD j 0 = o.getD j 0 + (if j = k ∧ k < o.length then 1 else 0) := by
  unfold inc
  simp only [List.getD_eq_getElem?_getD, List.getElem?_set]
  by_cases h : k = j
  · subst h
    by_cases hk : k < o.length
    · simp [hk]
    · simp [hk]
  · have : ¬ j = k := fun e => h e.symm
    simp [h, this]
theorem incs_get (o : List Int) (s : List Nat) (j : Nat) : (incs o s).getD j 0 = o.getD j 0 + (if j < o.length then (s.count j : Int) else 0) := by
  induction s generalizing o with
  | nil => simp [incs]
  | cons x s ih =>
    show (incs (inc o x) s).getD j 0 = _
    rw [ih, inc_get, inc_len, List.count_cons]
    by_cases h : j = x
    · subst h
      by_cases hk : j < o.length
      · simp [hk]; omega
      · simp [hk]
    · have : (x == j) = false := by simp; exact fun e => h e.symm
      simp [h, this]
theorem list_same {a b : List Int} (hl : a.length = b.length) (h : ∀ j, j < a.length → a.getD j 0 = b.getD j 0) : a = b := by
  apply List.ext_getElem hl
  intro i h1 h2
  have := h i h1
  simpa [List.getD, h1, h2] using this
theorem zeros_get (n j : Nat) : (List.replicate n (0 : Int)).getD j 0 = 0 := by
  by_cases h : j < n <;> simp [List.getD, h]
theorem us_pos {l : List Int} {k : Nat} (hk : k < l.length) (h : 0 < l.getD k 0) : 1 ≤ us l := by
  induction l generalizing k with
  | nil => simp at hk
  | cons b l ih =>
    simp only [us, List.map_cons, List.sum_cons] at ih ⊢
    cases k with
    | zero => have : 0 < b := by simpa using h
              rw [if_pos this]; omega
    | succ k => have := ih (k := k) (by simpa using hk) (by simpa using h); omega
theorem us_zero {l : List Int} (h : us l = 0) (k : Nat) (hk : k < l.length) : ¬ 0 < l.getD k 0 := fun hp => by have := us_pos hk hp; omega
def litS (t : Tk) : Nat := if isB t then t.1.toNat else 257 + fnd 3 4 t.2.1.toNat 27
def distS (t : Tk) : List Nat := if isB t then [] else [fnd 1 2 t.2.2.toNat 29]
theorem litS_lt {t : Tk} (_ : okT t = true) : litS t < 286 := by
  unfold litS
  split
  · rename_i hB; have := isB_bd hB; omega
  · have := fnd_le 3 4 t.2.1.toNat 27; omega
theorem distS_lt {t : Tk} : ∀ x ∈ distS t, x < 30 := by
  unfold distS
  intro x hx
  split at hx
  · simp at hx
  · have := fnd_le 1 2 t.2.2.toNat 29
    simp at hx; omega
def litC (T : List Tk) : List Int := inc (incs (List.replicate 286 0) (T.map litS)) 256
def distB (T : List Tk) : List Int := incs (List.replicate 30 0) (T.flatMap distS)
def distC (T : List Tk) : List Int := if us (distB T) = 0 then inc (distB T) 0 else distB T
theorem litC_len (T : List Tk) : (litC T).length = 286 := by unfold litC; rw [inc_len, incs_len, List.length_replicate]
theorem distB_len (T : List Tk) : (distB T).length = 30 := by unfold distB; rw [incs_len, List.length_replicate]
theorem distC_len (T : List Tk) : (distC T).length = 30 := by unfold distC; split; rw [inc_len, distB_len]; exact distB_len T
theorem litC_get (T : List Tk) (j : Nat) (hj : j < 286) : (litC T).getD j 0 = ((T.map litS).count j : Int) + (if j = 256 then 1 else 0) := by
  unfold litC
  rw [inc_get, incs_get, incs_len, List.length_replicate, zeros_get, if_pos hj]
  by_cases h : j = 256 <;> simp [h]
theorem distB_get (T : List Tk) (j : Nat) (hj : j < 30) : (distB T).getD j 0 = ((T.flatMap distS).count j : Int) := by
  unfold distB
  rw [incs_get, List.length_replicate, zeros_get, if_pos hj]; simp
theorem litC_other (T : List Tk) : incs (inc (List.replicate 286 0) 256) (T.map litS) = litC T := by
  apply list_same
  · rw [incs_len, inc_len, litC_len, List.length_replicate]
  · intro j hj
    rw [incs_len, inc_len, List.length_replicate] at hj
    rw [litC_get T j hj, incs_get, inc_get, inc_len, List.length_replicate, zeros_get, if_pos hj]
    by_cases h : j = 256 <;> simp [h]; omega
theorem flat_len (T : List Tk) : (T.flatMap distS).length ≤ T.length := by
  induction T with
  | nil => simp
  | cons t r ih =>
    have : (distS t).length ≤ 1 := by unfold distS; split <;> simp
    simp only [List.flatMap_cons, List.length_append, List.length_cons]; omega
theorem litC_ok (T : List Tk) (hT : T.length ≤ 300) : okC (litC T) := by
  intro i hi
  rw [litC_len] at hi
  rw [litC_get T i hi]
  have h1 : (T.map litS).count i ≤ (T.map litS).length := List.count_le_length
  rw [List.length_map] at h1
  split <;> omega
theorem distB_ok (T : List Tk) (hT : T.length ≤ 300) : ∀ i, i < 30 → 0 ≤ (distB T).getD i 0 ∧ (distB T).getD i 0 ≤ 300 := by
  intro i hi
  rw [distB_get T i hi]
  have h1 : (T.flatMap distS).count i ≤ (T.flatMap distS).length := List.count_le_length
  have h2 := flat_len T
  omega
theorem distC_ok (T : List Tk) (hT : T.length ≤ 300) : okC (distC T) := by
  intro i hi
  rw [distC_len] at hi
  have := distB_ok T hT i hi
  unfold distC
  split
  · rw [inc_get]; split <;> omega
  · omega
theorem litC_us (T : List Tk) : 1 ≤ us (litC T) ∧ us (litC T) ≤ 286 := by
  refine ⟨us_pos (k := 256) (by rw [litC_len]; omega) ?_, by have := us_le (litC T); rw [litC_len] at this; exact this⟩
  rw [litC_get T 256 (by omega), if_pos rfl]
  omega
theorem distC_us (T : List Tk) : 1 ≤ us (distC T) ∧ us (distC T) ≤ 30 := by
  refine ⟨?_, by have := us_le (distC T); rw [distC_len] at this; exact this⟩
  unfold distC
  split
  · rename_i h
    refine us_pos (k := 0) (by rw [inc_len, distB_len]; omega) ?_
    rw [inc_get, distB_get T 0 (by omega), distB_len, if_pos (by omega)]
    omega
  · omega
theorem distC_sub (T : List Tk) (j : Nat) (h : 0 < (distB T).getD j 0) : 0 < (distC T).getD j 0 := by
  unfold distC
  split
  · rw [inc_get]; split <;> omega
  · exact h
def cutN (l : List Int) (least : Nat) : Nat → Nat
  | 0 => 0
  | n + 1 => if least < n + 1 ∧ l.getD n 0 = 0 then cutN l least n else n + 1
def cutL (l : List Int) (least : Nat) : List Int := l.take (cutN l least l.length)
theorem cutN_step {l : List Int} {least n : Nat} (h : least < n + 1 ∧ l.getD n 0 = 0) : cutN l least (n + 1) = cutN l least n := by simp only [cutN]; rw [if_pos h]
theorem cutN_stop {l : List Int} {least n : Nat} (h : ¬ (least < n ∧ l.getD (n - 1) 0 = 0)) : cutN l least n = n := by
  cases n with
  | zero => rfl
  | succ n => rw [Nat.add_sub_cancel] at h; simp only [cutN]; rw [if_neg h]
theorem cutN_le (l : List Int) (least n : Nat) : cutN l least n ≤ n := by
  induction n with
  | zero => exact Nat.le_refl _
  | succ n ih => simp only [cutN]; split <;> omega
theorem cutN_least (l : List Int) (least n : Nat) (h : least ≤ n) : least ≤ cutN l least n := by
  induction n with
  | zero => exact h
  | succ n ih => simp only [cutN]; split
                 · exact ih (by omega)
                 · exact h
theorem cutN_zero (l : List Int) (least n j : Nat) (h1 : cutN l least n ≤ j) (h2 : j < n) : l.getD j 0 = 0 := by
  induction n with
  | zero => omega
  | succ n ih =>
    by_cases hc : least < n + 1 ∧ l.getD n 0 = 0
    · rw [cutN_step hc] at h1
      by_cases e : j = n
      · subst e; exact hc.2
      · exact ih h1 (by omega)
    · simp only [cutN] at h1; rw [if_neg hc] at h1; omega
theorem cutL_len (l : List Int) (least : Nat) : (cutL l least).length = cutN l least l.length := by
  unfold cutL; rw [List.length_take]; have := cutN_le l least l.length; omega
theorem take_get (l : List Int) (c j : Nat) (h : j < c) : (l.take c).getD j 0 = l.getD j 0 := by
  simp [List.getD, h]
theorem cutL_get (l : List Int) (least j : Nat) (h : j < l.length) : (cutL l least).getD j 0 = l.getD j 0 := by
  by_cases hc : j < cutN l least l.length
  · exact take_get l _ j hc
  · rw [cutN_zero l least l.length j (by omega) h]
    have : (cutL l least).length ≤ j := by rw [cutL_len]; omega
    simp [List.getD, this]
theorem zero_sums {l : List Int} (h : ∀ x ∈ l, x = 0) : kr l = 0 ∧ us l = 0 := by
  induction l with
  | nil => exact ⟨rfl, rfl⟩
  | cons b l ih =>
    obtain ⟨h1, h2⟩ := ih (fun x hx => h x (by simp [hx]))
    have hb : b = 0 := h b (by simp)
    subst hb
    simp only [kr, us, List.map_cons, List.sum_cons] at h1 h2 ⊢
    rw [h1, h2]; exact ⟨rfl, rfl⟩
theorem cut_sums (l : List Int) (least : Nat) : kr (cutL l least) = kr l ∧ us (cutL l least) = us l := by
  have h : ∀ x ∈ l.drop (cutN l least l.length), x = 0 := by
    intro x hx
    obtain ⟨i, hi, rfl⟩ := List.mem_iff_getElem.1 hx
    rw [List.getElem_drop]
    rw [List.length_drop] at hi
    have := cutN_zero l least l.length (cutN l least l.length + i) (by omega) (by omega)
    have hlt : cutN l least l.length + i < l.length := by omega
    simpa [List.getD, hlt] using this
  obtain ⟨h1, h2⟩ := zero_sums h
  have e : l = cutL l least ++ l.drop (cutN l least l.length) := (List.take_append_drop _ _).symm
  have k1 : kr l = kr (cutL l least) + kr (l.drop (cutN l least l.length)) := by
    conv => lhs; rw [e]
    simp [kr]
  have k2 : us l = us (cutL l least) + us (l.drop (cutN l least l.length)) := by
    conv => lhs; rw [e]
    simp [us]
  omega
theorem lensOk_cut {l : List Int} (least : Nat) (h : lensOk l = true) : lensOk (cutL l least) = true := by
  obtain ⟨h1, h2⟩ := cut_sums l least
  unfold lensOk wholeL at h ⊢
  rw [h1, h2]
  simp only [Bool.and_eq_true, decide_eq_true_eq] at h ⊢
  obtain ⟨⟨ha, hb⟩, hc⟩ := h
  refine ⟨⟨?_, by rw [cutL_len]; have := cutN_le l least l.length; omega⟩, hc⟩
  unfold inL at ha ⊢
  rw [List.all_eq_true] at ha ⊢
  intro x hx
  exact ha x (List.mem_of_mem_take hx)
def ownL (T : List Tk) : List Int := cutL (fitL 15 (litC T)) 257
def ownD (T : List Tk) : List Int := cutL (fitL 15 (distC T)) 1
theorem p2_14 : p2 14 = 16384 := by decide
theorem p2_6 : p2 6 = 64 := by decide
theorem litF (T : List Tk) (hT : T.length ≤ 300) : (fitL 15 (litC T)).length = 286 ∧ lensOk (fitL 15 (litC T)) = true ∧ ∀ i, i < 286 → 0 ≤ (fitL 15 (litC T)).getD i 0 ∧ (fitL 15 (litC T)).getD i 0 ≤ 15 ∧ (0 < (fitL 15 (litC T)).getD i 0 ↔ 0 < (litC T).getD i 0) := by
  have h1 := litC_us T
  have h := lens_law (m := 14) (litC_ok T hT) (by rw [litC_len]; omega) (by rw [seed_usL]; omega) (by rw [seed_usL]; have h2 := p2_14; omega) (by omega)
  rw [litC_len] at h
  exact h
theorem distF (T : List Tk) (hT : T.length ≤ 300) : (fitL 15 (distC T)).length = 30 ∧ lensOk (fitL 15 (distC T)) = true ∧ ∀ i, i < 30 → 0 ≤ (fitL 15 (distC T)).getD i 0 ∧ (fitL 15 (distC T)).getD i 0 ≤ 15 ∧ (0 < (fitL 15 (distC T)).getD i 0 ↔ 0 < (distC T).getD i 0) := by
  have h1 := distC_us T
  have h := lens_law (m := 14) (distC_ok T hT) (by rw [distC_len]; omega) (by rw [seed_usL]; omega) (by rw [seed_usL]; have h2 := p2_14; omega) (by omega)
  rw [distC_len] at h
  exact h
theorem ownL_len (T : List Tk) (hT : T.length ≤ 300) : 257 ≤ (ownL T).length ∧ (ownL T).length ≤ 286 := by
  obtain ⟨h1, _, _⟩ := litF T hT
  unfold ownL
  rw [cutL_len, h1]
  exact ⟨cutN_least _ _ _ (by omega), cutN_le _ _ _⟩
theorem ownD_len (T : List Tk) (hT : T.length ≤ 300) : 1 ≤ (ownD T).length ∧ (ownD T).length ≤ 30 := by
  obtain ⟨h1, _, _⟩ := distF T hT
  unfold ownD
  rw [cutL_len, h1]
  exact ⟨cutN_least _ _ _ (by omega), cutN_le _ _ _⟩
theorem ownL_ok (T : List Tk) (hT : T.length ≤ 300) : lensOk (ownL T) = true := lensOk_cut 257 (litF T hT).2.1
theorem ownD_ok (T : List Tk) (hT : T.length ≤ 300) : lensOk (ownD T) = true := lensOk_cut 1 (distF T hT).2.1
theorem get_lt {l : List Int} {j : Nat} (h : 0 < l.getD j 0) : j < l.length := by
  rcases Nat.lt_or_ge j l.length with h' | h'
  · exact h'
  · simp [List.getD, h'] at h
theorem ownL_has (T : List Tk) (hT : T.length ≤ 300) (k : Nat) (hk : k = 256 ∨ k ∈ T.map litS) (h286 : k < 286) : 0 < (ownL T).getD k 0 := by
  obtain ⟨h1, _, h3⟩ := litF T hT
  unfold ownL
  rw [cutL_get _ _ _ (by omega)]
  refine (h3 k h286).2.2.2 ?_
  rw [litC_get T k h286]
  rcases hk with rfl | hk
  · rw [if_pos rfl]; omega
  · have := List.count_pos_iff.2 hk
    split <;> omega
theorem ownD_has (T : List Tk) (hT : T.length ≤ 300) (k : Nat) (hk : k ∈ T.flatMap distS) (h30 : k < 30) : 0 < (ownD T).getD k 0 := by
  obtain ⟨h1, _, h3⟩ := distF T hT
  unfold ownD
  rw [cutL_get _ _ _ (by omega)]
  refine (h3 k h30).2.2.2 (distC_sub T k ?_)
  rw [distB_get T k h30]
  have := List.count_pos_iff.2 hk
  omega
theorem own_has (T : List Tk) (hT : T.length ≤ 300) (hok : ∀ t ∈ T, okT t = true) (t : Tk) (ht : t ∈ T) : 0 < (ownL T).getD (litS t) 0 ∧ ∀ k ∈ distS t, 0 < (ownD T).getD k 0 := by
  refine ⟨ownL_has T hT _ (.inr (List.mem_map_of_mem ht)) (litS_lt (hok t ht)), fun k hk => ownD_has T hT k ?_ (distS_lt k hk)⟩
  exact List.mem_flatMap.2 ⟨t, ht, hk⟩
theorem own_fits (T : List Tk) (hT : T.length ≤ 300) (hok : ∀ t ∈ T, okT t = true) (t : Tk) (ht : t ∈ T) : fitsT (ownL T) (ownD T) t := by
  obtain ⟨h1, h2⟩ := own_has T hT hok t ht
  unfold fitsT
  unfold litS at h1
  unfold distS at h2
  split
  · rename_i h
    rw [if_pos h] at h1
    exact get_lt h1
  · rename_i h
    rw [if_neg h] at h1 h2
    exact ⟨get_lt h1, get_lt (h2 _ (by simp))⟩
def cnt7 (A : List Int) : List Int := incs (List.replicate 19 0) (A.map Int.toNat)
def lens7 (A : List Int) : List Int := fitL 7 (cnt7 A)
theorem cnt7_len (A : List Int) : (cnt7 A).length = 19 := by unfold cnt7; rw [incs_len, List.length_replicate]
theorem cnt7_get (A : List Int) (j : Nat) (hj : j < 19) : (cnt7 A).getD j 0 = ((A.map Int.toNat).count j : Int) := by
  unfold cnt7
  rw [incs_get, List.length_replicate, zeros_get, if_pos hj]; simp
theorem cnt7_ok (A : List Int) (hA : A.length ≤ 400) : okC (cnt7 A) := by
  intro i hi
  rw [cnt7_len] at hi
  rw [cnt7_get A i hi]
  have h1 : (A.map Int.toNat).count i ≤ (A.map Int.toNat).length := List.count_le_length
  rw [List.length_map] at h1
  omega
theorem cnt7_us (A : List Int) (h0 : 0 < A.length) (hA : ∀ x ∈ A, 0 ≤ x ∧ x ≤ 15) : 1 ≤ us (cnt7 A) ∧ us (cnt7 A) ≤ 19 := by
  refine ⟨?_, by have := us_le (cnt7 A); rw [cnt7_len] at this; exact this⟩
  have h1 := hA A[0] (List.getElem_mem h0)
  refine us_pos (k := (A[0]).toNat) (by rw [cnt7_len]; omega) ?_
  rw [cnt7_get A _ (by omega)]
  have := List.count_pos_iff.2 (List.mem_map_of_mem (f := Int.toNat) (List.getElem_mem h0))
  omega
theorem lens7F (A : List Int) (h0 : 0 < A.length) (h4 : A.length ≤ 400) (hA : ∀ x ∈ A, 0 ≤ x ∧ x ≤ 15) : (lens7 A).length = 19 ∧ lensOk (lens7 A) = true ∧ ∀ i, i < 19 → 0 ≤ (lens7 A).getD i 0 ∧ (lens7 A).getD i 0 ≤ 7 ∧ (0 < (lens7 A).getD i 0 ↔ 0 < (cnt7 A).getD i 0) := by
  have h1 := cnt7_us A h0 hA
  have h := lens_law (m := 6) (cnt7_ok A h4) (by rw [cnt7_len]; omega) (by rw [seed_usL]; omega) (by rw [seed_usL]; have h2 := p2_6; omega) (by omega)
  rw [cnt7_len] at h
  exact h
def toldP (L D : List Int) : List (Int × Int) :=
  [((L.length : Int) - 257, 5), ((D.length : Int) - 1, 5), (15, 4)] ++ (ordL.map (fun i => ((lens7 (L ++ D)).getD i 0, (3 : Int))) ++ (L ++ D).map (fun x => pcM (lens7 (L ++ D)) x.toNat))
def ownP (T : List Tk) : List (Int × Int) := [(1, 1), (2, 2)] ++ (toldP (ownL T) (ownD T) ++ (T.flatMap (pcTM (ownL T) (ownD T)) ++ [pcM (ownL T) 256]))
theorem lens_bd {l : List Int} (h : lensOk l = true) : ∀ x ∈ l, 0 ≤ x ∧ x ≤ 15 := by
  intro x hx
  obtain ⟨i, hi, rfl⟩ := List.mem_iff_getElem.1 hx
  have := inL_bd (lensOk_in h) hi
  simpa [List.getD, hi] using this
theorem toldP_ok {L D : List Int} (hL : lensOk L = true) (hD : lensOk D = true) (l0 : 257 ≤ L.length) (l1 : L.length ≤ 286) (d0 : 1 ≤ D.length) (d1 : D.length ≤ 30) : allOk (toldP L D) = true ∧ (toldP L D).length ≤ 338 := by
  have hA : ∀ x ∈ L ++ D, 0 ≤ x ∧ x ≤ 15 := by
    intro x hx
    rcases List.mem_append.1 hx with h | h
    · exact lens_bd hL x h
    · exact lens_bd hD x h
  obtain ⟨h1, h2, h3⟩ := lens7F (L ++ D) (by rw [List.length_append]; omega) (by rw [List.length_append]; omega) hA
  refine ⟨?_, ?_⟩
  · unfold toldP allOk
    rw [List.all_append, List.all_append]
    simp only [Bool.and_eq_true]
    refine ⟨?_, ?_, ?_⟩
    · simp only [List.all_cons, List.all_nil, Bool.and_true, Bool.and_eq_true]
      refine ⟨pOk_true.2 ⟨by omega, by omega, ?_⟩, pOk_true.2 ⟨by omega, by omega, ?_⟩, by decide⟩
      · have : p2 (5 : Int).toNat = 32 := by decide
        rw [this]; omega
      · have : p2 (5 : Int).toNat = 32 := by decide
        rw [this]; omega
    · rw [List.all_eq_true]
      intro x hx
      obtain ⟨i, hi, rfl⟩ := List.mem_map.1 hx
      have hi19 : i < 19 := by
        have : ∀ i ∈ ordL, i < 19 := by decide
        exact this i hi
      have := h3 i hi19
      refine pOk_true.2 ⟨by omega, this.1, ?_⟩
      have : p2 (3 : Int).toNat = 8 := by decide
      rw [this]; omega
    · rw [List.all_eq_true]
      intro x hx
      obtain ⟨y, hy, rfl⟩ := List.mem_map.1 hx
      have hy2 := hA y hy
      exact pcM_ok (inL_bd (lensOk_in h2) (by rw [h1]; omega))
  · unfold toldP
    simp only [List.length_append, List.length_map, List.length_cons, List.length_nil]
    have : ordL.length = 19 := rfl
    omega
theorem ownP_ok (T : List Tk) (hT : T.length ≤ 300) (hok : ∀ t ∈ T, okT t = true) : lOk (ownP T) = true := by
  have gL := good_of (ownL_ok T hT)
  have gD := good_of (ownD_ok T hT)
  obtain ⟨l0, l1⟩ := ownL_len T hT
  obtain ⟨d0, d1⟩ := ownD_len T hT
  obtain ⟨h1, h2⟩ := flatM_ok gL gD T (fun t ht => ⟨hok t ht, own_fits T hT hok t ht⟩)
  obtain ⟨t1, t2⟩ := toldP_ok (ownL_ok T hT) (ownD_ok T hT) l0 l1 d0 d1
  have h4 : pOk (pcM (ownL T) 256).1 (pcM (ownL T) 256).2 = true := pcM_ok (gL 256 (by omega)).1
  unfold lOk
  have h5 : allOk (ownP T) = true := by
    unfold ownP
    unfold allOk at *
    rw [List.all_append, List.all_append, List.all_append, h1, t1]
    simp only [List.all_cons, List.all_nil, h4]
    decide
  have h6 : (ownP T).length ≤ 4000 := by unfold ownP; simp only [List.length_append, List.length_cons, List.length_nil]; omega
  rw [h5]; simpa using h6
def ownT (s : ByteArray) : List UInt8 := textP (ownP (toksP s.data.toList 0))
end Go.Proofs.YtgpghapnmalipaaGreatDoor
namespace Go.Proofs.YtgpghapnmalipaaGreatDoor
open Go.RowKit Corb
set_option maxHeartbeats 1600000 in
theorem lensCut_any (g o : Nat) (cap n least : Nat) (l : List Int) (w : World) (hn : l.length = n) (h : ∀ i, i < n → w.cell? ⟨g, o + i, none⟩ = some (.int .i64 (l.getD i 0))) (hc : n ≤ cap) (hm : n ≤ 300) (hl : least ≤ n) :
    Calls Tryz.prog 75 #[.slice (some ⟨g, o, none⟩) n cap, .int .i64 (least : Nat)] w fun e w' => e = .returned (.slice (some ⟨g, o, none⟩) (cutN l least n) cap) ∧ w' = w := by
  have hcI : (n : Int) ≤ (cap : Int) := by omega
  have hmI : (n : Int) ≤ 300 := by omega
  have hlI : (least : Int) ≤ (n : Int) := by omega
  have H := hide h
  have HN := hide hn
  clear h hn hc hm hl
  go_enter Tryz.func75, Tryz.ntmps75
  go_wp2
  go_loop [5] (fun x => ∃ k : Nat, k ≤ n ∧ x = .int .i64 k ∧ cutN l least n = cutN l least k) (fun x => (intOf x).toNat)
  case atStart => exact ⟨n, Nat.le_refl _, rfl, rfl⟩
  case round =>
    obtain ⟨k, hk, rfl, hcut⟩ := hrel
    have HC := hide hcut
    have HK := hide hk
    have hkI : (k : Int) ≤ (n : Int) := by omega
    clear hcut hk
    by_cases hlt : least < k
    · have hltI : decide ((least : Int) < (k : Int)) = true := decide_eq_true (by omega)
      have hltI' : (least : Int) < (k : Int) := by omega
      obtain ⟨j, hj⟩ : ∃ j, k = j + 1 := ⟨k - 1, by omega⟩
      subst hj
      have hc0 := unhide H j (by have := unhide HK; omega)
      have hs := hide (fun h => cutN_step (l := l) (least := least) (n := j) h)
      have hp := hide (fun h => cutN_stop (l := l) (least := least) (n := j + 1) h)
      have hjI : ((j + 1 : Nat) : Int) - 1 = (j : Int) := by omega
      have hjn : (j : Int) < (n : Int) := by omega
      generalize hy : l.getD j 0 = y at *
      have HY := hide hy
      clear hy
      by_cases hz : y = 0
      · subst hz
        have HC2 : Hid (cutN l least n = cutN l least j) := (unhide HC).trans (unhide hs ⟨hlt, rfl⟩)
        have HJ : Hid (j ≤ n) := by show j ≤ n; have := unhide HK; omega
        clear hlt
        go_wp2
        go_round
        case rel => exact ⟨j, unhide HJ, by go_num, unhide HC2⟩
        case measure => simp [intOf]
      · have hzb : (y == 0) = false := by simpa using hz
        have HC2 : Hid (cutN l least n = j + 1) := (unhide HC).trans (unhide hp (by rw [Nat.add_sub_cancel, unhide HY]; exact fun h => hz h.2))
        have h0 : (0 : Int) ≤ ((j + 1 : Nat) : Int) := by omega
        clear hlt
        go_wp2
        go_ret
        exact ⟨by rw [unhide HC2]; rfl, rfl⟩
    · have hltI : decide ((least : Int) < (k : Int)) = false := decide_eq_false (by omega)
      have hltI' : ¬ (least : Int) < (k : Int) := by omega
      have HC2 : Hid (cutN l least n = k) := (unhide HC).trans (cutN_stop (fun h => hlt h.1))
      clear hlt
      go_wp2
      go_ret
      exact ⟨by rw [unhide HC2]; rfl, rfl⟩
set_option maxHeartbeats 1600000 in
theorem l5Last_any (g o : Nat) (cap n least : Nat) (l : List Int) (w : World) (hn : l.length = n) (h : ∀ i, i < n → w.cell? ⟨g, o + i, none⟩ = some (.int .i64 (l.getD i 0))) (hc : n ≤ cap) (hm : n ≤ 300) (hl : least ≤ n) :
    Calls Tryz.prog 124 #[.slice (some ⟨g, o, none⟩) n cap, .int .i64 (least : Nat)] w fun e w' => e = .returned (.slice (some ⟨g, o, none⟩) (cutN l least n) cap) ∧ w' = w := by
  have hcI : (n : Int) ≤ (cap : Int) := by omega
  have hmI : (n : Int) ≤ 300 := by omega
  have hlI : (least : Int) ≤ (n : Int) := by omega
  have H := hide h
  have HN := hide hn
  clear h hn hc hm hl
  go_enter Tryz.func124, Tryz.ntmps124
  go_wp2
  go_loop [5] (fun x => ∃ k : Nat, k ≤ n ∧ x = .int .i64 k ∧ cutN l least n = cutN l least k) (fun x => (intOf x).toNat)
  case atStart => exact ⟨n, Nat.le_refl _, rfl, rfl⟩
  case round =>
    obtain ⟨k, hk, rfl, hcut⟩ := hrel
    have HC := hide hcut
    have HK := hide hk
    have hkI : (k : Int) ≤ (n : Int) := by omega
    clear hcut hk
    by_cases hlt : least < k
    · have hltI : decide ((least : Int) < (k : Int)) = true := decide_eq_true (by omega)
      have hltI' : (least : Int) < (k : Int) := by omega
      obtain ⟨j, hj⟩ : ∃ j, k = j + 1 := ⟨k - 1, by omega⟩
      subst hj
      have hc0 := unhide H j (by have := unhide HK; omega)
      have hs := hide (fun h => cutN_step (l := l) (least := least) (n := j) h)
      have hp := hide (fun h => cutN_stop (l := l) (least := least) (n := j + 1) h)
      have hjI : ((j + 1 : Nat) : Int) - 1 = (j : Int) := by omega
      have hjn : (j : Int) < (n : Int) := by omega
      generalize hy : l.getD j 0 = y at *
      have HY := hide hy
      clear hy
      by_cases hz : y = 0
      · subst hz
        have HC2 : Hid (cutN l least n = cutN l least j) := (unhide HC).trans (unhide hs ⟨hlt, rfl⟩)
        have HJ : Hid (j ≤ n) := by show j ≤ n; have := unhide HK; omega
        clear hlt
        go_wp2
        go_round
        case rel => exact ⟨j, unhide HJ, by go_num, unhide HC2⟩
        case measure => simp [intOf]
      · have hzb : (y == 0) = false := by simpa using hz
        have HC2 : Hid (cutN l least n = j + 1) := (unhide HC).trans (unhide hp (by rw [Nat.add_sub_cancel, unhide HY]; exact fun h => hz h.2))
        have h0 : (0 : Int) ≤ ((j + 1 : Nat) : Int) := by omega
        clear hlt
        go_wp2
        go_ret
        exact ⟨by rw [unhide HC2]; rfl, rfl⟩
    · have hltI : decide ((least : Int) < (k : Int)) = false := decide_eq_false (by omega)
      have hltI' : ¬ (least : Int) < (k : Int) := by omega
      have HC2 : Hid (cutN l least n = k) := (unhide HC).trans (cutN_stop (fun h => hlt h.1))
      clear hlt
      go_wp2
      go_ret
      exact ⟨by rw [unhide HC2]; rfl, rfl⟩
end Go.Proofs.YtgpghapnmalipaaGreatDoor
namespace Go.Proofs.YtgpghapnmalipaaGreatDoor
open Go.RowKit Corb
theorem Tryz.infoLenK : (Tryz.prog.info? 186).map (·.size) = some 19 := by kernel_rfl
theorem lenBook_any (a : Option Addr) (cap n base : Nat) (l : List Int) (w : World) (hn : l.length = n) (h : JRow w base a l) (hB : base ≤ w.heap.size) (hm : n ≤ 300) :
    Calls Tryz.prog 110 #[.slice a n cap] w fun e w' => (∃ C, e = .returned (.agg C) ∧ BookV w' base l C) ∧ Below w.heap.size w w' := by
  refine (Len.codeBook_any a cap n l w hn h.1 hm).mono ?_
  rintro e w' ⟨vs, C, rfl, hC, h1, h2, hb⟩
  obtain ⟨q, sc, rfl⟩ := h2.form
  subst hn
  exact ⟨⟨C, rfl, a, cap, _, _, q, sc, hC, h.later hb, (own_jrow (outN_len l 15) (h1.own (outN_len l 15))).mono (by omega), (own_jrow rfl h2).mono (by omega)⟩, hb⟩
theorem lenPut_any (k : Nat) (l : List Int) (C : Array Value) (base : Nat) (w : World) (hB : BookV w base l C) (hk : k < l.length) (hm : l.length ≤ 300) :
    Calls Tryz.prog 112 #[.agg C, .int .i64 (k : Int)] w fun e w' => e = .returned (.agg #[.int .i64 (btI ((outN l 15).2.getD k 0) (l.getD k 0)), .int .i64 (l.getD k 0)]) ∧ Below w.heap.size w w' := by
  obtain ⟨a, cap, ac, cc, q, sc, e, h1, h2, h3⟩ := hB
  exact Len.bookPut_any a ac cap l.length cc k _ _ C l (outN l 15).2 w e rfl (outN_len l 15) h1.1 h2.1 hk hm
def BookB (w : World) (b base : Nat) (l : List Int) (C : Array Value) : Prop := BookV w base l C ∧ w.rangeAt b 0 C.toList ∧ b < w.heap.size
theorem BookB.later {w w' : World} {b base : Nat} {l : List Int} {C : Array Value} (h : BookB w b base l C) (hb : Below w.heap.size w w') : BookB w' b base l C :=
  ⟨h.1.later hb, range_later h.2.1 hb h.2.2, Nat.lt_of_lt_of_le h.2.2 hb.size⟩
set_option maxHeartbeats 1600000 in
theorem toldOne_any (k b base : Nat) (l : List Int) (C : Array Value) (w : World) (hB : BookB w b base l C) (hk : k < l.length) (hm : l.length ≤ 300) :
    Calls Tryz.prog 111 #[.int .i64 (k : Int), .pointer (some ⟨b, 0, none⟩)] w fun e w' => e = .returned (.agg #[.int .i64 (pcS l k).1, .int .i64 (pcS l k).2]) ∧ Below w.heap.size w w' := by
  have hA : Below w.heap.size w (w.alloc (.cells #[.int .i64 0, .int .i64 0] 112)) := (Below.refl _ _).alloc (Nat.le_refl _) _
  have HA := hide hA
  have HR := hide (hB.later hA).2.1
  have HS := hide hB.1.size
  have HP := hide (lenPut_any k l C base _ (hB.later hA).1 hk hm)
  have HPc : Hid (pcS l k = (btI ((outN l 15).2.getD k 0) (l.getD k 0), l.getD k 0)) := rfl
  generalize btI ((outN l 15).2.getD k 0) (l.getD k 0) = u at *
  generalize l.getD k 0 = v at *
  clear hB hk hm hA
  go_enter Tryz.func111, Tryz.ntmps111
  go_wp2_with (first
    | (refine wpList_load_half rfl 186 (.tmp 1) rfl b 0 rfl C _ (unhide HR) Tryz.underlying186 rfl (by rw [unhide HS]; exact Tryz.infoLenK) ?_)
    | (go_at_call 112; refine (unhide HP).mono ?_; rintro e x1 ⟨rfl, hb1⟩; have k1 := kept_new hb1; obtain ⟨m0, m1, _⟩ := k2_cells k1; obtain ⟨n0, n1⟩ := k2_free k1))
  have k2 := k2_put k1 (.int .i64 u) (.int .i64 v)
  obtain ⟨r0, r1, _⟩ := k2_cells k2
  refine bodyPost_ret (v := .agg #[.int .i64 u, .int .i64 v]) (by simp [results, Tryz.results111, go_sem, r0, r1]) rfl ⟨by rw [unhide HPc], ?_⟩
  exact below_set (below_set (bnext (unhide HA) hb1) (Nat.le_refl _) _) (Nat.le_refl _) _
def lensS (l : List Int) (t : List Int) : List (Int × Int) := t.map fun x => pcS l x.toNat
theorem lensS_take (l t : List Int) (k : Nat) (h : k < t.length) : lensS l (t.take (k + 1)) = lensS l (t.take k) ++ [pcS l (t.getD k 0).toNat] := by
  unfold lensS
  rw [take_snocI t k h, List.map_append]; rfl
set_option maxHeartbeats 1600000 in
theorem eachL_any (a : Option Addr) (cap n b base : Nat) (t l : List Int) (C : Array Value) (w : World) (hn : t.length = n) (h : IRow w a t) (hm : n ≤ 1000) (hB : BookB w b base l C) (hl : l.length ≤ 300) (hall : ∀ i, i < t.length → 0 ≤ t.getD i 0 ∧ t.getD i 0 < (l.length : Int)) :
    Calls Tryz.prog 69 #[.slice a n cap, .func (.func 111) #[] #[.pointer (some ⟨b, 0, none⟩)]] w fun e w' => ∃ v, e = .returned v ∧ Pcs w' w.heap.size v (lensS l t) ∧ Below w.heap.size w w' := by
  have hmI : (n : Int) ≤ 1000 := by omega
  have Hn := hide hn
  have Hm := hide hm
  have Hl := hide hl
  have HA := hide hall
  have HB := hide hB
  clear hn hm hall hl hB
  obtain ⟨i0, hi, hz0, hz1, hz2⟩ := info_parts Tryz.infoPiece
  go_enter Tryz.func69, Tryz.ntmps69
  go_wp2_with fail
  go_loopw [5, 7, 10] (fun o _ i wr => ∃ k : Nat, k ≤ n ∧ i = .int .i64 k ∧ Pcs wr w.heap.size o (lensS l (t.take k)) ∧ Below w.heap.size w wr) (fun _ _ i _ => n - (intOf i).toNat)
  case atStart => exact ⟨0, Nat.zero_le _, rfl, World.ownsRow_nil _ _ _ _, Below.refl _ _⟩
  case round =>
    obtain ⟨k, hk, rfl, hq, hbel⟩ := hrel
    have hbs := hbel.size
    by_cases hlt : k < n
    · obtain ⟨g, o, rfl, hg, hcc⟩ := (h.later hbel) (by rw [unhide Hn]; omega)
      have c0 := hcc k (by rw [unhide Hn]; exact hlt)
      have hst := hide (lensS_take l t k (by rw [unhide Hn]; exact hlt))
      have hlk : Hid ((lensS l (t.take k)).length = k) := by show (lensS l (t.take k)).length = k; unfold lensS; have := unhide Hn; simp; omega
      obtain ⟨y0, y1⟩ := unhide HA k (by rw [unhide Hn]; exact hlt)
      have Hk := hide hk
      clear hcc hk h
      generalize t.getD k 0 = y at *
      obtain ⟨q, rfl⟩ := Int.eq_ofNat_of_zero_le y0
      rw [Int.toNat_natCast] at hst
      have HP := hide (toldOne_any q b base l C wr ((unhide HB).later hbel) (by omega) (unhide Hl))
      generalize hR : pcS l q = R at *
      clear hR
      obtain ⟨R1, R2⟩ := R
      go_wp2_with fail
      refine (unhide HP).mono ?_
      rintro e x1 ⟨rfl, hb1⟩
      have hq1 := Pcs.later hq hb1 (Nat.le_refl _)
      have hbel1 := bnext hbel hb1
      have hbs1 := hbel1.size
      have hlen1 : Hid ((lensS l (t.take k)).length + 1 ≤ maxLen ∧ ((lensS l (t.take k)).length + 1) * 16 ≤ 140737488355328) := by
        show _ ∧ _
        rw [unhide hlk]
        have := unhide Hm
        unfold maxLen
        omega
      clear hq hbel hb1 HP
      go_wp2_with (at_builtin; refine wpList_append_own _ rfl _ _ 109 rfl w.heap.size 112 i0 (.agg #[.int .i64 0, .int .i64 0]) 2 16 Tryz.underlying109 hi hz0 hz1 hz2 rfl (by decide) _ _ _ rfl (World.ownsRow.alloc hq1 _) ⟨x1.heap.size, 0, none⟩ 1 1 [.int .i64 R1, .int .i64 R2] rfl rfl (two_new x1 _ _ _) (two_int _ _) (unhide hlen1).1 (unhide hlen1).2 (size_alloc_le hbs1 _) ?_; intro v' x2 hown hgrow hnil; clear hnil)
      have hb2 := grown_step (v := u5) hgrow hq1 (Nat.le_refl _) hbs1 hbel1
      have hq2 := pcs_snoc hown
      rw [← unhide hst] at hq2
      clear hown hgrow hq1
      go_wp2
      go_roundw
      case rel => exact ⟨k + 1, by have := unhide Hk; omega, by go_num, hq2, hb2⟩
      case measure => simp [intOf]; omega
    · have hlk2 : t.take k = t := List.take_of_length_le (by rw [unhide Hn]; omega)
      rw [hlk2] at hq
      obtain ⟨va, vc, rfl⟩ := hq.form
      clear hlk2 h
      go_wp2
      go_ret
      exact ⟨_, rfl, hq, hbel⟩
end Go.Proofs.YtgpghapnmalipaaGreatDoor
namespace Go.Proofs.YtgpghapnmalipaaGreatDoor
open Go.RowKit Go.Shelf Corb
attribute [local go_sem] Oper.semAt_some
theorem step_make_in {F : Fence} {n : Nat} {P : Program} {ops : Array Oper} {o : Oper} {a : Act} {w : World} {K : Act → World → Prop} {Q : Exit → Act → World → Prop} {E : Prop}
    (hg : o.guard = none) (l c : Operand) (t : TypeId) (hop : o.op = Op.makeSlice t l c)
    (base : Nat) (e : TypeId) (i : TypeInfo) (z : Value) (size : Nat) (h1 : P.underlying t = some (.slice e)) (h2 : P.info? e = some i) (h3 : i.zero = some z) (h4 : i.size = size)
    (kl kc : IntKind) (L C : Int) (k : Nat) (hl : a.eval l = .int kl L) (hc : a.eval c = .int kc C) (hL : L = (k : Int)) (hC : C = (k : Int)) (b2 : i.bytes * k ≤ 281474976710656) (b3 : k ≤ maxLen) (b4 : base ≤ w.heap.size)
    (hK : ∀ g w', w.heap.size = g → w'.ownsRow base e size (.slice (some ⟨g, 0, none⟩) k k) k (madeCells z.cells (k * size)).toList → w.grownBy w' none → K (a.put o.dst (.slice (some ⟨g, 0, none⟩) k k)) w') :
    if Region.wanted o (yielded ops a.tmps) = true then Oper.wpIn F n P o a w K Q else E := by
  have hw : Region.wanted o (yielded ops a.tmps) = true := by simp [Region.wanted, hg]
  rw [if_pos hw]
  obtain ⟨w', hrun, r1, r2⟩ := run_make_full (P := P) w base t e i z size h1 h2 h3 h4 kl kc k b2 b3 b4
  subst hL
  subst hC
  unfold Oper.wpIn
  refine ⟨?_, ?_⟩
  · simp [Oper.about, hop]
  · rw [Oper.semAt_plain F _ _ (by rw [hop]; intro c hc'; cases hc')]
    simp [execOp, hop, hl, hc, hrun, Result.andThen]
    exact hK _ w' rfl r1 r2
theorem iown_own {β : Type} (n₀ : Nat) (v : Value) (f : β → List Int) : Own (fun (b : β) W => IOwn W n₀ v (f b)) := fun b X _ row hs hg hrow => by
  refine World.ownsRow.kept hs hg ?_
  rcases hs.2 with ⟨rfl, _⟩ | ⟨g, cap, cur, rfl, _, hgb, _⟩
  · exact .inl rfl
  · refine .inr fun e' => ?_
    obtain ⟨o, ho, hc⟩ := hrow g e'.symm
    rw [show X.heap[g]? = _ from hgb] at ho
    cases ho
    cases hc
def Sts (n₀ : Nat) (w W : World) (r10 r11 : Option Nat) (r4 r5 : Option (Nat × Value)) : Prop :=
  Below n₀ w W ∧ (∀ g, r10 = some g → IOwn W n₀ (.slice (some ⟨g, 0, none⟩) 286 286) (List.replicate 286 0)) ∧ (∀ g, r11 = some g → IOwn W n₀ (.slice (some ⟨g, 0, none⟩) 30 30) (List.replicate 30 0)) ∧
  (∀ b v, r4 = some (b, v) → n₀ ≤ b ∧ Boxed W b 107 v) ∧ (∀ b v, r5 = some (b, v) → n₀ ≤ b ∧ Boxed W b 107 v) ∧ (∀ g g', r10 = some g → r11 = some g' → g ≠ g') ∧ (∀ b v b' v', r4 = some (b, v) → r5 = some (b', v') → b ≠ b') ∧ n₀ ≤ W.heap.size
theorem grown_below {W W' : World} (h : W.grownBy W' none) : Below W.heap.size W W' := (Below.refl _ _).grown h (Nat.le_refl _) (fun j hj => by cases hj)
theorem Sts.later {n₀ : Nat} {w W W' : World} {r10 r11 : Option Nat} {r4 r5 : Option (Nat × Value)} (h : Sts n₀ w W r10 r11 r4 r5) (hb : Below W.heap.size W W') : Sts n₀ w W' r10 r11 r4 r5 := by
  obtain ⟨h0, h1, h2, h3, h4, h5, h6, h7⟩ := h
  exact ⟨h0.trans (hb.mono h7), fun g e => (h1 g e).later hb (Nat.le_refl _), fun g e => (h2 g e).later hb (Nat.le_refl _), fun b v e => ⟨(h3 b v e).1, Boxed.later (h3 b v e).2 hb⟩, fun b v e => ⟨(h4 b v e).1, Boxed.later (h4 b v e).2 hb⟩, h5, h6, Nat.le_trans h7 hb.size⟩
theorem Sts.make10 {n₀ : Nat} {w W W' : World} {r11 : Option Nat} {r4 r5 : Option (Nat × Value)} (h : Sts n₀ w W none r11 r4 r5) {g : Nat} (hg : W.grownBy W' none) (hgs : W.heap.size = g) (hn : IOwn W' n₀ (.slice (some ⟨g, 0, none⟩) 286 286) (List.replicate 286 0)) : Sts n₀ w W' (some g) r11 r4 r5 := by
  subst hgs
  have hlt : ∀ g, r11 = some g → g < W.heap.size := fun g e => (h.2.2.1 g e).below.2
  obtain ⟨h0, h1, h2, h3, h4, h5, h6, h7⟩ := h.later (grown_below hg)
  exact ⟨h0, fun g e => by cases e; exact hn, h2, h3, h4, fun g g' e e' => by cases e; have := hlt g' e'; omega, h6, h7⟩
theorem Sts.make11 {n₀ : Nat} {w W W' : World} {r10 : Option Nat} {r4 r5 : Option (Nat × Value)} (h : Sts n₀ w W r10 none r4 r5) {g : Nat} (hg : W.grownBy W' none) (hgs : W.heap.size = g) (hn : IOwn W' n₀ (.slice (some ⟨g, 0, none⟩) 30 30) (List.replicate 30 0)) : Sts n₀ w W' r10 (some g) r4 r5 := by
  subst hgs
  have hlt : ∀ g, r10 = some g → g < W.heap.size := fun g e => (h.2.1 g e).below.2
  obtain ⟨h0, h1, h2, h3, h4, h5, h6, h7⟩ := h.later (grown_below hg)
  exact ⟨h0, h1, fun g e => by cases e; exact hn, h3, h4, fun g g' e e' => by cases e'; have := hlt g e; omega, h6, h7⟩
theorem Sts.box4 {n₀ : Nat} {w W : World} {r10 r11 : Option Nat} {r5 : Option (Nat × Value)} (h : Sts n₀ w W r10 r11 none r5) (v : Value) : Sts n₀ w (W.alloc (.cells #[v] 107)) r10 r11 (some (W.heap.size, v)) r5 := by
  have hlt : ∀ b v, r5 = some (b, v) → b < W.heap.size := fun b v e => (h.2.2.2.2.1 b v e).2.lt
  have h8 := h.2.2.2.2.2.2.2
  obtain ⟨h0, h1, h2, h3, h4, h5, h6, h7⟩ := h.later ((Below.refl _ W).alloc (Nat.le_refl _) (.cells #[v] 107))
  exact ⟨h0, h1, h2, fun b u e => by cases e; exact ⟨h8, Boxed.new _ _ _⟩, h4, h5, fun b u b' u' e e' => by cases e; have := hlt b' u' e'; omega, h7⟩
theorem Sts.box5 {n₀ : Nat} {w W : World} {r10 r11 : Option Nat} {r4 : Option (Nat × Value)} (h : Sts n₀ w W r10 r11 r4 none) (v : Value) : Sts n₀ w (W.alloc (.cells #[v] 107)) r10 r11 r4 (some (W.heap.size, v)) := by
  have hlt : ∀ b v, r4 = some (b, v) → b < W.heap.size := fun b v e => (h.2.2.2.1 b v e).2.lt
  have h8 := h.2.2.2.2.2.2.2
  obtain ⟨h0, h1, h2, h3, h4, h5, h6, h7⟩ := h.later ((Below.refl _ W).alloc (Nat.le_refl _) (.cells #[v] 107))
  exact ⟨h0, h1, h2, h3, fun b u e => by cases e; exact ⟨h8, Boxed.new _ _ _⟩, h5, fun b u b' u' e e' => by cases e'; have := hlt b u e; omega, h7⟩
theorem box_apart {W : World} {n₀ b g n : Nat} {v : Value} {l : List Int} (h : Boxed W b 107 v) (hr : IOwn W n₀ (.slice (some ⟨g, 0, none⟩) n n) l) : b ≠ g := by
  intro e
  exact h.not_row (by decide) hr (by rw [e]; rfl)
theorem sbox_apart {W : World} {n₀ b g n : Nat} {v : Value} {l : List Int} (h : Boxed W b 9 v) (hr : IOwn W n₀ (.slice (some ⟨g, 0, none⟩) n n) l) : b ≠ g := by
  intro e
  exact h.not_row (by decide) hr (by rw [e]; rfl)
theorem boxed_set {W : World} {B b o : Nat} {t : TypeId} {v : Value} (h : Boxed W B t v) (hne : B ≠ b) (u : Value) : Boxed (W.setCell ⟨b, o, none⟩ u) B t v := (Below.heap_setCell _ _ _ B hne).trans h
theorem rec_apart {W : World} {n₀ D g n : Nat} {r : Option (List Deferred)} {l : List Int} (h : W.heap[D]? = some (.deferred r)) (hr : IOwn W n₀ (.slice (some ⟨g, 0, none⟩) n n) l) : D ≠ g := by
  rintro rfl
  rcases hr.2 with ⟨e, _⟩ | ⟨g, cap, cur, e, _, hgb, _⟩
  · cases e
  · simp only [Value.slice.injEq, Option.some.injEq, Addr.mk.injEq, and_true] at e
    rw [← e.1] at hgb
    rw [h] at hgb
    cases hgb
theorem most_us (l : List Int) : mostL l l.length = 0 ↔ us l = 0 := by
  have hp : ∀ k, 0 ≤ mostL l k := by
    intro k
    induction k with
    | zero => exact Int.le_refl _
    | succ k ih => simp only [mostL]; split <;> omega
  constructor
  · intro h
    rcases Nat.eq_zero_or_pos (us l) with h1 | h1
    · exact h1
    · exfalso
      have : ∃ k, k < l.length ∧ 0 < l.getD k 0 := by
        clear h hp
        induction l with
        | nil => simp [us] at h1
        | cons b l ih =>
          by_cases hb : 0 < b
          · exact ⟨0, by simp, by simpa using hb⟩
          · obtain ⟨k, hk, hp⟩ := ih (by simp only [us, List.map_cons, List.sum_cons, if_neg hb] at h1; simpa [us] using h1)
            exact ⟨k + 1, by simpa using hk, by simpa using hp⟩
      obtain ⟨k, hk, hp⟩ := this
      have := most_ge l l.length k hk
      omega
  · intro h
    have : ∀ k, k ≤ l.length → mostL l k = 0 := by
      intro k
      induction k with
      | zero => exact fun _ => rfl
      | succ k ih =>
        intro hk
        have h1 := us_zero h k (by omega)
        simp only [mostL]
        rw [ih (by omega), if_neg h1]
    exact this _ (Nat.le_refl _)
theorem Sts.put4 {n₀ b : Nat} {w W : World} {v : Value} {r10 r11 : Option Nat} {r5 : Option (Nat × Value)} (h : Sts n₀ w W r10 r11 (some (b, v)) r5) (u : Value) : Sts n₀ w (W.setCell ⟨b, 0, none⟩ u) r10 r11 (some (b, u)) r5 := by
  obtain ⟨h0, h1, h2, h3, h4, h5, h6, h7⟩ := h
  have hb := h3 b v rfl
  exact ⟨below_set h0 hb.1 u, fun g e => (h1 g e).setOther (box_apart hb.2 (h1 g e)) u, fun g e => (h2 g e).setOther (box_apart hb.2 (h2 g e)) u, fun b' v' e => by cases e; exact ⟨hb.1, hb.2.set u⟩, fun b' v' e => ⟨(h4 b' v' e).1, (h4 b' v' e).2.other (h6 b v b' v' rfl e).symm u⟩, h5, fun b' v' b'' v'' e e' => by cases e; exact h6 b v b'' v'' rfl e', by simpa using h7⟩
theorem Sts.put5 {n₀ b : Nat} {w W : World} {v : Value} {r10 r11 : Option Nat} {r4 : Option (Nat × Value)} (h : Sts n₀ w W r10 r11 r4 (some (b, v))) (u : Value) : Sts n₀ w (W.setCell ⟨b, 0, none⟩ u) r10 r11 r4 (some (b, u)) := by
  obtain ⟨h0, h1, h2, h3, h4, h5, h6, h7⟩ := h
  have hb := h4 b v rfl
  exact ⟨below_set h0 hb.1 u, fun g e => (h1 g e).setOther (box_apart hb.2 (h1 g e)) u, fun g e => (h2 g e).setOther (box_apart hb.2 (h2 g e)) u, fun b' v' e => ⟨(h3 b' v' e).1, (h3 b' v' e).2.other (h6 b' v' b v e rfl) u⟩, fun b' v' e => by cases e; exact ⟨hb.1, hb.2.set u⟩, h5, fun b' v' b'' v'' e e' => by cases e'; exact h6 b' v' b v e rfl, by simpa using h7⟩
def litP {s : ByteArray} (pre : List (TkS s)) : List Int := incs (List.replicate 286 0) ((pre.map Subtype.val).map litS)
def distP {s : ByteArray} (pre : List (TkS s)) : List Int := incs (List.replicate 30 0) ((pre.map Subtype.val).flatMap distS)
theorem litP_len {s : ByteArray} (pre : List (TkS s)) : (litP pre).length = 286 := by unfold litP; rw [incs_len, List.length_replicate]
theorem distP_len {s : ByteArray} (pre : List (TkS s)) : (distP pre).length = 30 := by unfold distP; rw [incs_len, List.length_replicate]
theorem litP_snocB {s : ByteArray} (pre : List (TkS s)) (x : TkS s) (h : isB x.1 = true) : litP (pre ++ [x]) = inc (litP pre) x.1.1.toNat := by
  unfold litP
  rw [List.map_append, List.map_append, List.map_singleton, List.map_singleton, incs_snoc]
  have : litS x.1 = x.1.1.toNat := by unfold litS; rw [if_pos h]
  rw [this]
theorem litP_snocK {s : ByteArray} (pre : List (TkS s)) (x : TkS s) (h : isB x.1 = false) : litP (pre ++ [x]) = inc (litP pre) (257 + fnd 3 4 x.1.2.1.toNat 27) := by
  unfold litP
  rw [List.map_append, List.map_append, List.map_singleton, List.map_singleton, incs_snoc]
  have : litS x.1 = 257 + fnd 3 4 x.1.2.1.toNat 27 := by unfold litS; rw [if_neg (by simp [h])]
  rw [this]
theorem distP_snocB {s : ByteArray} (pre : List (TkS s)) (x : TkS s) (h : isB x.1 = true) : distP (pre ++ [x]) = distP pre := by
  unfold distP
  rw [List.map_append, List.flatMap_append, List.map_singleton]
  have : [x.1].flatMap distS = [] := by simp [distS, h]
  rw [this, List.append_nil]
theorem distP_snocK {s : ByteArray} (pre : List (TkS s)) (x : TkS s) (h : isB x.1 = false) : distP (pre ++ [x]) = inc (distP pre) (fnd 1 2 x.1.2.2.toNat 29) := by
  unfold distP
  rw [List.map_append, List.flatMap_append, List.map_singleton]
  have : [x.1].flatMap distS = [fnd 1 2 x.1.2.2.toNat 29] := by simp [distS, h]
  rw [this, incs_snoc]
theorem incs_bd (n : Nat) (l : List Nat) (k : Nat) : 0 ≤ (incs (List.replicate n 0) l).getD k 0 ∧ (incs (List.replicate n 0) l).getD k 0 ≤ (l.length : Int) := by
  rw [incs_get, zeros_get]
  have : l.count k ≤ l.length := List.count_le_length
  split <;> omega
theorem litP_bd {s : ByteArray} (pre : List (TkS s)) (k : Nat) : 0 ≤ (litP pre).getD k 0 ∧ (litP pre).getD k 0 ≤ (pre.length : Int) := by
  have := incs_bd 286 ((pre.map Subtype.val).map litS) k
  rw [List.length_map, List.length_map] at this
  exact this
theorem distP_bd {s : ByteArray} (pre : List (TkS s)) (k : Nat) : 0 ≤ (distP pre).getD k 0 ∧ (distP pre).getD k 0 ≤ (pre.length : Int) := by
  have h1 := incs_bd 30 ((pre.map Subtype.val).flatMap distS) k
  have h2 := flat_len (pre.map Subtype.val)
  rw [List.length_map] at h2
  exact ⟨h1.1, by have := h1.2; unfold distP; omega⟩
set_option maxRecDepth 100000 in
set_option maxHeartbeats 12800000 in
theorem flateCounts_any (s : ByteArray) (w : World) (hs : s.size ≤ 300)  :
    Calls Tryz.prog 74 #[.string s] w fun e w' => (∃ gl gd, e = .returned (.tuple #[.slice (some ⟨gl, 0, none⟩) 286 286, .slice (some ⟨gd, 0, none⟩) 30 30]) ∧ IOwn w' w.heap.size (.slice (some ⟨gl, 0, none⟩) 286 286) (litC (toksP s.data.toList 0)) ∧ IOwn w' w.heap.size (.slice (some ⟨gd, 0, none⟩) 30 30) (distC (toksP s.data.toList 0))) ∧ Below w.heap.size w w' := by
  obtain ⟨i0, hi, hz0, hz1, hz2⟩ := info_parts Tryz.infoInt
  have hsI : (s.size : Int) ≤ 300 := by omega
  have hmx : Tryz.prog.follows .mixedOrders = true := by kernel_rfl
  refine (callsIn_wide (n := 6)).1 ?_
  refine callsIn_of_wp_marks Tryz.func74 rfl trivial ?_ rfl
  simp only [Tryz.ntmps74, List.size_toArray, List.length_cons, List.length_nil, Nat.reduceAdd, Nat.reduceSub, Array.replicate_succ, Array.replicate_zero, List.push_toArray, List.append_toArray, List.nil_append, List.cons_append]
  gi_wp2
  rename_i Q' K hKr
  suffices hK : ∀ (gl gd bl bd : Nat) (W : World), Sts w.heap.size w W (some gl) (some gd) (some (bl, .slice (some ⟨gl, 0, none⟩) 286 286)) (some (bd, .slice (some ⟨gd, 0, none⟩) 30 30)) →
      K { tmps := #[.string s, undef, .slice none 0 0, .slice none 0 0, .pointer (some ⟨bl, 0, none⟩), .pointer (some ⟨bd, 0, none⟩), undef, undef, undef, undef, .slice (some ⟨gl, 0, none⟩) 286 286, .slice (some ⟨gd, 0, none⟩) 30 30, undef, undef, undef, undef, undef, undef, undef, undef, undef, undef, undef, undef, undef, undef, undef, undef, undef, undef, undef, undef, undef, undef, undef, undef, undef, undef, undef, undef, undef, undef, undef, undef, undef, undef, undef, undef, undef, undef, undef, undef, undef, undef, undef, undef, undef, undef, undef], defers := [] } W by
    clear hKr
    have hs0 : Sts w.heap.size w w.drew none none none none := ⟨(Below.refl _ _).drew, nofun, nofun, nofun, nofun, nofun, nofun, Nat.le_refl _⟩
    refine wpIn_region_any hmx ?_
    change wpAnyIn _ _ _ _ _ _ _ _ _ (World.drew _)
    generalize w.drew = W0 at hs0 ⊢
    refine wpAnyIn_ready (rs := [0, 1, 2, 3]) (by kernel_rfl) (by simp) ?_
    refine AllReadyIn.cons rfl (fun K1 hK1 => ?_) (AllReadyIn.cons rfl (fun K1 hK1 => ?_) (AllReadyIn.cons rfl (fun K1 hK1 => ?_) (AllReadyIn.cons rfl (fun K1 hK1 => ?_) (AllReadyIn.nil))))
    · refine step_make_in rfl _ _ 107 rfl w.heap.size 3 i0 (.int .i64 0) 1 Tryz.underlying107 hi hz0 hz1 .i64 .i64 286 286 286 rfl rfl rfl rfl (by rw [hz2]; omega) (by unfold maxLen; omega) hs0.2.2.2.2.2.2.2 ?_
      intro g1 W1 hg1 ho hgr
      have s1 := hs0.make10 hgr hg1 (made_ints ho)
      refine hK1 _ _ ?_
      clear hK1 K1 ho hgr hg1 hs0
      refine wpAnyIn_ready (rs := [1, 2, 3]) (by kernel_rfl) (by simp) ?_
      refine AllReadyIn.cons rfl (fun K1 hK1 => ?_) (AllReadyIn.cons rfl (fun K1 hK1 => ?_) (AllReadyIn.cons rfl (fun K1 hK1 => ?_) (AllReadyIn.nil)))
      · refine step_make_in rfl _ _ 107 rfl w.heap.size 3 i0 (.int .i64 0) 1 Tryz.underlying107 hi hz0 hz1 .i64 .i64 30 30 30 rfl rfl rfl rfl (by rw [hz2]; omega) (by unfold maxLen; omega) s1.2.2.2.2.2.2.2 ?_
        intro g2 W2 hg2 ho hgr
        have s2 := s1.make11 hgr hg2 (made_ints ho)
        refine hK1 _ _ ?_
        clear hK1 K1 ho hgr hg2 s1
        refine wpAnyIn_ready (rs := [2, 3]) (by kernel_rfl) (by simp) ?_
        refine AllReadyIn.cons rfl (fun K1 hK1 => ?_) (AllReadyIn.cons rfl (fun K1 hK1 => ?_) (AllReadyIn.nil))
        · have s3 := s2.box4 (.slice none 0 0)
          go_simp
          refine hK1 _ _ ?_
          clear hK1 K1 s2
          generalize W2.alloc (.cells #[.slice none 0 0] 107) = W3 at s3 ⊢
          generalize W2.heap.size = g3 at s3 ⊢
          refine wpAnyIn_ready (rs := [3]) (by kernel_rfl) (by simp) ?_
          refine AllReadyIn.cons rfl (fun K1 hK1 => ?_) (AllReadyIn.nil)
          have s4 := s3.box5 (.slice none 0 0)
          go_simp
          refine hK1 _ _ ?_
          clear hK1 K1 s3
          generalize W3.alloc (.cells #[.slice none 0 0] 107) = W4 at s4 ⊢
          generalize W3.heap.size = g4 at s4 ⊢
          refine wpAnyIn_ready (rs := [4]) (by kernel_rfl) (by simp) ?_
          refine AllReadyIn.cons rfl (fun K1 hK1 => ?_) (AllReadyIn.nil)
          have hc := (s4.2.2.2.1 _ _ rfl).2.cell
          have hf := (s4.2.2.2.1 _ _ rfl).2.frozen
          have s5 := s4.put4 (.slice (some ⟨g1, 0, none⟩) 286 286)
          go_simp
          refine hK1 _ _ ?_
          clear hK1 K1 hc hf s4
          generalize W4.setCell ⟨g3, 0, none⟩ (.slice (some ⟨g1, 0, none⟩) 286 286) = W5 at s5 ⊢
          refine wpAnyIn_ready (rs := [5]) (by kernel_rfl) (by simp) ?_
          refine AllReadyIn.cons rfl (fun K1 hK1 => ?_) (AllReadyIn.nil)
          have hc := (s5.2.2.2.2.1 _ _ rfl).2.cell
          have hf := (s5.2.2.2.2.1 _ _ rfl).2.frozen
          have s6 := s5.put5 (.slice (some ⟨g2, 0, none⟩) 30 30)
          go_simp
          refine hK1 _ _ ?_
          clear hK1 K1 hc hf s5
          generalize W5.setCell ⟨g4, 0, none⟩ (.slice (some ⟨g2, 0, none⟩) 30 30) = W6 at s6 ⊢
          refine wpAnyIn_done (by kernel_rfl) ?_ _
          exact hK _ _ _ _ _ s6
        · have s7 := s2.box5 (.slice none 0 0)
          go_simp
          refine hK1 _ _ ?_
          clear hK1 K1 s2
          generalize W2.alloc (.cells #[.slice none 0 0] 107) = W7 at s7 ⊢
          generalize W2.heap.size = g7 at s7 ⊢
          refine wpAnyIn_ready (rs := [2]) (by kernel_rfl) (by simp) ?_
          refine AllReadyIn.cons rfl (fun K1 hK1 => ?_) (AllReadyIn.nil)
          have s8 := s7.box4 (.slice none 0 0)
          go_simp
          refine hK1 _ _ ?_
          clear hK1 K1 s7
          generalize W7.alloc (.cells #[.slice none 0 0] 107) = W8 at s8 ⊢
          generalize W7.heap.size = g8 at s8 ⊢
          refine wpAnyIn_ready (rs := [4]) (by kernel_rfl) (by simp) ?_
          refine AllReadyIn.cons rfl (fun K1 hK1 => ?_) (AllReadyIn.nil)
          have hc := (s8.2.2.2.1 _ _ rfl).2.cell
          have hf := (s8.2.2.2.1 _ _ rfl).2.frozen
          have s9 := s8.put4 (.slice (some ⟨g1, 0, none⟩) 286 286)
          go_simp
          refine hK1 _ _ ?_
          clear hK1 K1 hc hf s8
          generalize W8.setCell ⟨g8, 0, none⟩ (.slice (some ⟨g1, 0, none⟩) 286 286) = W9 at s9 ⊢
          refine wpAnyIn_ready (rs := [5]) (by kernel_rfl) (by simp) ?_
          refine AllReadyIn.cons rfl (fun K1 hK1 => ?_) (AllReadyIn.nil)
          have hc := (s9.2.2.2.2.1 _ _ rfl).2.cell
          have hf := (s9.2.2.2.2.1 _ _ rfl).2.frozen
          have s10 := s9.put5 (.slice (some ⟨g2, 0, none⟩) 30 30)
          go_simp
          refine hK1 _ _ ?_
          clear hK1 K1 hc hf s9
          generalize W9.setCell ⟨g7, 0, none⟩ (.slice (some ⟨g2, 0, none⟩) 30 30) = W10 at s10 ⊢
          refine wpAnyIn_done (by kernel_rfl) ?_ _
          exact hK _ _ _ _ _ s10
      · have s11 := s1.box4 (.slice none 0 0)
        go_simp
        refine hK1 _ _ ?_
        clear hK1 K1 s1
        generalize W1.alloc (.cells #[.slice none 0 0] 107) = W11 at s11 ⊢
        generalize W1.heap.size = g11 at s11 ⊢
        refine wpAnyIn_ready (rs := [1, 3]) (by kernel_rfl) (by simp) ?_
        refine AllReadyIn.cons rfl (fun K1 hK1 => ?_) (AllReadyIn.cons rfl (fun K1 hK1 => ?_) (AllReadyIn.nil))
        · refine step_make_in rfl _ _ 107 rfl w.heap.size 3 i0 (.int .i64 0) 1 Tryz.underlying107 hi hz0 hz1 .i64 .i64 30 30 30 rfl rfl rfl rfl (by rw [hz2]; omega) (by unfold maxLen; omega) s11.2.2.2.2.2.2.2 ?_
          intro g12 W12 hg12 ho hgr
          have s12 := s11.make11 hgr hg12 (made_ints ho)
          refine hK1 _ _ ?_
          clear hK1 K1 ho hgr hg12 s11
          refine wpAnyIn_ready (rs := [3]) (by kernel_rfl) (by simp) ?_
          refine AllReadyIn.cons rfl (fun K1 hK1 => ?_) (AllReadyIn.nil)
          have s13 := s12.box5 (.slice none 0 0)
          go_simp
          refine hK1 _ _ ?_
          clear hK1 K1 s12
          generalize W12.alloc (.cells #[.slice none 0 0] 107) = W13 at s13 ⊢
          generalize W12.heap.size = g13 at s13 ⊢
          refine wpAnyIn_ready (rs := [4]) (by kernel_rfl) (by simp) ?_
          refine AllReadyIn.cons rfl (fun K1 hK1 => ?_) (AllReadyIn.nil)
          have hc := (s13.2.2.2.1 _ _ rfl).2.cell
          have hf := (s13.2.2.2.1 _ _ rfl).2.frozen
          have s14 := s13.put4 (.slice (some ⟨g1, 0, none⟩) 286 286)
          go_simp
          refine hK1 _ _ ?_
          clear hK1 K1 hc hf s13
          generalize W13.setCell ⟨g11, 0, none⟩ (.slice (some ⟨g1, 0, none⟩) 286 286) = W14 at s14 ⊢
          refine wpAnyIn_ready (rs := [5]) (by kernel_rfl) (by simp) ?_
          refine AllReadyIn.cons rfl (fun K1 hK1 => ?_) (AllReadyIn.nil)
          have hc := (s14.2.2.2.2.1 _ _ rfl).2.cell
          have hf := (s14.2.2.2.2.1 _ _ rfl).2.frozen
          have s15 := s14.put5 (.slice (some ⟨g12, 0, none⟩) 30 30)
          go_simp
          refine hK1 _ _ ?_
          clear hK1 K1 hc hf s14
          generalize W14.setCell ⟨g13, 0, none⟩ (.slice (some ⟨g12, 0, none⟩) 30 30) = W15 at s15 ⊢
          refine wpAnyIn_done (by kernel_rfl) ?_ _
          exact hK _ _ _ _ _ s15
        · have s16 := s11.box5 (.slice none 0 0)
          go_simp
          refine hK1 _ _ ?_
          clear hK1 K1 s11
          generalize W11.alloc (.cells #[.slice none 0 0] 107) = W16 at s16 ⊢
          generalize W11.heap.size = g16 at s16 ⊢
          refine wpAnyIn_ready (rs := [1, 4]) (by kernel_rfl) (by simp) ?_
          refine AllReadyIn.cons rfl (fun K1 hK1 => ?_) (AllReadyIn.cons rfl (fun K1 hK1 => ?_) (AllReadyIn.nil))
          · refine step_make_in rfl _ _ 107 rfl w.heap.size 3 i0 (.int .i64 0) 1 Tryz.underlying107 hi hz0 hz1 .i64 .i64 30 30 30 rfl rfl rfl rfl (by rw [hz2]; omega) (by unfold maxLen; omega) s16.2.2.2.2.2.2.2 ?_
            intro g17 W17 hg17 ho hgr
            have s17 := s16.make11 hgr hg17 (made_ints ho)
            refine hK1 _ _ ?_
            clear hK1 K1 ho hgr hg17 s16
            refine wpAnyIn_ready (rs := [4]) (by kernel_rfl) (by simp) ?_
            refine AllReadyIn.cons rfl (fun K1 hK1 => ?_) (AllReadyIn.nil)
            have hc := (s17.2.2.2.1 _ _ rfl).2.cell
            have hf := (s17.2.2.2.1 _ _ rfl).2.frozen
            have s18 := s17.put4 (.slice (some ⟨g1, 0, none⟩) 286 286)
            go_simp
            refine hK1 _ _ ?_
            clear hK1 K1 hc hf s17
            generalize W17.setCell ⟨g11, 0, none⟩ (.slice (some ⟨g1, 0, none⟩) 286 286) = W18 at s18 ⊢
            refine wpAnyIn_ready (rs := [5]) (by kernel_rfl) (by simp) ?_
            refine AllReadyIn.cons rfl (fun K1 hK1 => ?_) (AllReadyIn.nil)
            have hc := (s18.2.2.2.2.1 _ _ rfl).2.cell
            have hf := (s18.2.2.2.2.1 _ _ rfl).2.frozen
            have s19 := s18.put5 (.slice (some ⟨g17, 0, none⟩) 30 30)
            go_simp
            refine hK1 _ _ ?_
            clear hK1 K1 hc hf s18
            generalize W18.setCell ⟨g16, 0, none⟩ (.slice (some ⟨g17, 0, none⟩) 30 30) = W19 at s19 ⊢
            refine wpAnyIn_done (by kernel_rfl) ?_ _
            exact hK _ _ _ _ _ s19
          · have hc := (s16.2.2.2.1 _ _ rfl).2.cell
            have hf := (s16.2.2.2.1 _ _ rfl).2.frozen
            have s20 := s16.put4 (.slice (some ⟨g1, 0, none⟩) 286 286)
            go_simp
            refine hK1 _ _ ?_
            clear hK1 K1 hc hf s16
            generalize W16.setCell ⟨g11, 0, none⟩ (.slice (some ⟨g1, 0, none⟩) 286 286) = W20 at s20 ⊢
            refine wpAnyIn_ready (rs := [1]) (by kernel_rfl) (by simp) ?_
            refine AllReadyIn.cons rfl (fun K1 hK1 => ?_) (AllReadyIn.nil)
            refine step_make_in rfl _ _ 107 rfl w.heap.size 3 i0 (.int .i64 0) 1 Tryz.underlying107 hi hz0 hz1 .i64 .i64 30 30 30 rfl rfl rfl rfl (by rw [hz2]; omega) (by unfold maxLen; omega) s20.2.2.2.2.2.2.2 ?_
            intro g21 W21 hg21 ho hgr
            have s21 := s20.make11 hgr hg21 (made_ints ho)
            refine hK1 _ _ ?_
            clear hK1 K1 ho hgr hg21 s20
            refine wpAnyIn_ready (rs := [5]) (by kernel_rfl) (by simp) ?_
            refine AllReadyIn.cons rfl (fun K1 hK1 => ?_) (AllReadyIn.nil)
            have hc := (s21.2.2.2.2.1 _ _ rfl).2.cell
            have hf := (s21.2.2.2.2.1 _ _ rfl).2.frozen
            have s22 := s21.put5 (.slice (some ⟨g21, 0, none⟩) 30 30)
            go_simp
            refine hK1 _ _ ?_
            clear hK1 K1 hc hf s21
            generalize W21.setCell ⟨g16, 0, none⟩ (.slice (some ⟨g21, 0, none⟩) 30 30) = W22 at s22 ⊢
            refine wpAnyIn_done (by kernel_rfl) ?_ _
            exact hK _ _ _ _ _ s22
      · have s23 := s1.box5 (.slice none 0 0)
        go_simp
        refine hK1 _ _ ?_
        clear hK1 K1 s1
        generalize W1.alloc (.cells #[.slice none 0 0] 107) = W23 at s23 ⊢
        generalize W1.heap.size = g23 at s23 ⊢
        refine wpAnyIn_ready (rs := [1, 2]) (by kernel_rfl) (by simp) ?_
        refine AllReadyIn.cons rfl (fun K1 hK1 => ?_) (AllReadyIn.cons rfl (fun K1 hK1 => ?_) (AllReadyIn.nil))
        · refine step_make_in rfl _ _ 107 rfl w.heap.size 3 i0 (.int .i64 0) 1 Tryz.underlying107 hi hz0 hz1 .i64 .i64 30 30 30 rfl rfl rfl rfl (by rw [hz2]; omega) (by unfold maxLen; omega) s23.2.2.2.2.2.2.2 ?_
          intro g24 W24 hg24 ho hgr
          have s24 := s23.make11 hgr hg24 (made_ints ho)
          refine hK1 _ _ ?_
          clear hK1 K1 ho hgr hg24 s23
          refine wpAnyIn_ready (rs := [2]) (by kernel_rfl) (by simp) ?_
          refine AllReadyIn.cons rfl (fun K1 hK1 => ?_) (AllReadyIn.nil)
          have s25 := s24.box4 (.slice none 0 0)
          go_simp
          refine hK1 _ _ ?_
          clear hK1 K1 s24
          generalize W24.alloc (.cells #[.slice none 0 0] 107) = W25 at s25 ⊢
          generalize W24.heap.size = g25 at s25 ⊢
          refine wpAnyIn_ready (rs := [4]) (by kernel_rfl) (by simp) ?_
          refine AllReadyIn.cons rfl (fun K1 hK1 => ?_) (AllReadyIn.nil)
          have hc := (s25.2.2.2.1 _ _ rfl).2.cell
          have hf := (s25.2.2.2.1 _ _ rfl).2.frozen
          have s26 := s25.put4 (.slice (some ⟨g1, 0, none⟩) 286 286)
          go_simp
          refine hK1 _ _ ?_
          clear hK1 K1 hc hf s25
          generalize W25.setCell ⟨g25, 0, none⟩ (.slice (some ⟨g1, 0, none⟩) 286 286) = W26 at s26 ⊢
          refine wpAnyIn_ready (rs := [5]) (by kernel_rfl) (by simp) ?_
          refine AllReadyIn.cons rfl (fun K1 hK1 => ?_) (AllReadyIn.nil)
          have hc := (s26.2.2.2.2.1 _ _ rfl).2.cell
          have hf := (s26.2.2.2.2.1 _ _ rfl).2.frozen
          have s27 := s26.put5 (.slice (some ⟨g24, 0, none⟩) 30 30)
          go_simp
          refine hK1 _ _ ?_
          clear hK1 K1 hc hf s26
          generalize W26.setCell ⟨g23, 0, none⟩ (.slice (some ⟨g24, 0, none⟩) 30 30) = W27 at s27 ⊢
          refine wpAnyIn_done (by kernel_rfl) ?_ _
          exact hK _ _ _ _ _ s27
        · have s28 := s23.box4 (.slice none 0 0)
          go_simp
          refine hK1 _ _ ?_
          clear hK1 K1 s23
          generalize W23.alloc (.cells #[.slice none 0 0] 107) = W28 at s28 ⊢
          generalize W23.heap.size = g28 at s28 ⊢
          refine wpAnyIn_ready (rs := [1, 4]) (by kernel_rfl) (by simp) ?_
          refine AllReadyIn.cons rfl (fun K1 hK1 => ?_) (AllReadyIn.cons rfl (fun K1 hK1 => ?_) (AllReadyIn.nil))
          · refine step_make_in rfl _ _ 107 rfl w.heap.size 3 i0 (.int .i64 0) 1 Tryz.underlying107 hi hz0 hz1 .i64 .i64 30 30 30 rfl rfl rfl rfl (by rw [hz2]; omega) (by unfold maxLen; omega) s28.2.2.2.2.2.2.2 ?_
            intro g29 W29 hg29 ho hgr
            have s29 := s28.make11 hgr hg29 (made_ints ho)
            refine hK1 _ _ ?_
            clear hK1 K1 ho hgr hg29 s28
            refine wpAnyIn_ready (rs := [4]) (by kernel_rfl) (by simp) ?_
            refine AllReadyIn.cons rfl (fun K1 hK1 => ?_) (AllReadyIn.nil)
            have hc := (s29.2.2.2.1 _ _ rfl).2.cell
            have hf := (s29.2.2.2.1 _ _ rfl).2.frozen
            have s30 := s29.put4 (.slice (some ⟨g1, 0, none⟩) 286 286)
            go_simp
            refine hK1 _ _ ?_
            clear hK1 K1 hc hf s29
            generalize W29.setCell ⟨g28, 0, none⟩ (.slice (some ⟨g1, 0, none⟩) 286 286) = W30 at s30 ⊢
            refine wpAnyIn_ready (rs := [5]) (by kernel_rfl) (by simp) ?_
            refine AllReadyIn.cons rfl (fun K1 hK1 => ?_) (AllReadyIn.nil)
            have hc := (s30.2.2.2.2.1 _ _ rfl).2.cell
            have hf := (s30.2.2.2.2.1 _ _ rfl).2.frozen
            have s31 := s30.put5 (.slice (some ⟨g29, 0, none⟩) 30 30)
            go_simp
            refine hK1 _ _ ?_
            clear hK1 K1 hc hf s30
            generalize W30.setCell ⟨g23, 0, none⟩ (.slice (some ⟨g29, 0, none⟩) 30 30) = W31 at s31 ⊢
            refine wpAnyIn_done (by kernel_rfl) ?_ _
            exact hK _ _ _ _ _ s31
          · have hc := (s28.2.2.2.1 _ _ rfl).2.cell
            have hf := (s28.2.2.2.1 _ _ rfl).2.frozen
            have s32 := s28.put4 (.slice (some ⟨g1, 0, none⟩) 286 286)
            go_simp
            refine hK1 _ _ ?_
            clear hK1 K1 hc hf s28
            generalize W28.setCell ⟨g28, 0, none⟩ (.slice (some ⟨g1, 0, none⟩) 286 286) = W32 at s32 ⊢
            refine wpAnyIn_ready (rs := [1]) (by kernel_rfl) (by simp) ?_
            refine AllReadyIn.cons rfl (fun K1 hK1 => ?_) (AllReadyIn.nil)
            refine step_make_in rfl _ _ 107 rfl w.heap.size 3 i0 (.int .i64 0) 1 Tryz.underlying107 hi hz0 hz1 .i64 .i64 30 30 30 rfl rfl rfl rfl (by rw [hz2]; omega) (by unfold maxLen; omega) s32.2.2.2.2.2.2.2 ?_
            intro g33 W33 hg33 ho hgr
            have s33 := s32.make11 hgr hg33 (made_ints ho)
            refine hK1 _ _ ?_
            clear hK1 K1 ho hgr hg33 s32
            refine wpAnyIn_ready (rs := [5]) (by kernel_rfl) (by simp) ?_
            refine AllReadyIn.cons rfl (fun K1 hK1 => ?_) (AllReadyIn.nil)
            have hc := (s33.2.2.2.2.1 _ _ rfl).2.cell
            have hf := (s33.2.2.2.2.1 _ _ rfl).2.frozen
            have s34 := s33.put5 (.slice (some ⟨g33, 0, none⟩) 30 30)
            go_simp
            refine hK1 _ _ ?_
            clear hK1 K1 hc hf s33
            generalize W33.setCell ⟨g23, 0, none⟩ (.slice (some ⟨g33, 0, none⟩) 30 30) = W34 at s34 ⊢
            refine wpAnyIn_done (by kernel_rfl) ?_ _
            exact hK _ _ _ _ _ s34
    · refine step_make_in rfl _ _ 107 rfl w.heap.size 3 i0 (.int .i64 0) 1 Tryz.underlying107 hi hz0 hz1 .i64 .i64 30 30 30 rfl rfl rfl rfl (by rw [hz2]; omega) (by unfold maxLen; omega) hs0.2.2.2.2.2.2.2 ?_
      intro g35 W35 hg35 ho hgr
      have s35 := hs0.make11 hgr hg35 (made_ints ho)
      refine hK1 _ _ ?_
      clear hK1 K1 ho hgr hg35 hs0
      refine wpAnyIn_ready (rs := [0, 2, 3]) (by kernel_rfl) (by simp) ?_
      refine AllReadyIn.cons rfl (fun K1 hK1 => ?_) (AllReadyIn.cons rfl (fun K1 hK1 => ?_) (AllReadyIn.cons rfl (fun K1 hK1 => ?_) (AllReadyIn.nil)))
      · refine step_make_in rfl _ _ 107 rfl w.heap.size 3 i0 (.int .i64 0) 1 Tryz.underlying107 hi hz0 hz1 .i64 .i64 286 286 286 rfl rfl rfl rfl (by rw [hz2]; omega) (by unfold maxLen; omega) s35.2.2.2.2.2.2.2 ?_
        intro g36 W36 hg36 ho hgr
        have s36 := s35.make10 hgr hg36 (made_ints ho)
        refine hK1 _ _ ?_
        clear hK1 K1 ho hgr hg36 s35
        refine wpAnyIn_ready (rs := [2, 3]) (by kernel_rfl) (by simp) ?_
        refine AllReadyIn.cons rfl (fun K1 hK1 => ?_) (AllReadyIn.cons rfl (fun K1 hK1 => ?_) (AllReadyIn.nil))
        · have s37 := s36.box4 (.slice none 0 0)
          go_simp
          refine hK1 _ _ ?_
          clear hK1 K1 s36
          generalize W36.alloc (.cells #[.slice none 0 0] 107) = W37 at s37 ⊢
          generalize W36.heap.size = g37 at s37 ⊢
          refine wpAnyIn_ready (rs := [3]) (by kernel_rfl) (by simp) ?_
          refine AllReadyIn.cons rfl (fun K1 hK1 => ?_) (AllReadyIn.nil)
          have s38 := s37.box5 (.slice none 0 0)
          go_simp
          refine hK1 _ _ ?_
          clear hK1 K1 s37
          generalize W37.alloc (.cells #[.slice none 0 0] 107) = W38 at s38 ⊢
          generalize W37.heap.size = g38 at s38 ⊢
          refine wpAnyIn_ready (rs := [4]) (by kernel_rfl) (by simp) ?_
          refine AllReadyIn.cons rfl (fun K1 hK1 => ?_) (AllReadyIn.nil)
          have hc := (s38.2.2.2.1 _ _ rfl).2.cell
          have hf := (s38.2.2.2.1 _ _ rfl).2.frozen
          have s39 := s38.put4 (.slice (some ⟨g36, 0, none⟩) 286 286)
          go_simp
          refine hK1 _ _ ?_
          clear hK1 K1 hc hf s38
          generalize W38.setCell ⟨g37, 0, none⟩ (.slice (some ⟨g36, 0, none⟩) 286 286) = W39 at s39 ⊢
          refine wpAnyIn_ready (rs := [5]) (by kernel_rfl) (by simp) ?_
          refine AllReadyIn.cons rfl (fun K1 hK1 => ?_) (AllReadyIn.nil)
          have hc := (s39.2.2.2.2.1 _ _ rfl).2.cell
          have hf := (s39.2.2.2.2.1 _ _ rfl).2.frozen
          have s40 := s39.put5 (.slice (some ⟨g35, 0, none⟩) 30 30)
          go_simp
          refine hK1 _ _ ?_
          clear hK1 K1 hc hf s39
          generalize W39.setCell ⟨g38, 0, none⟩ (.slice (some ⟨g35, 0, none⟩) 30 30) = W40 at s40 ⊢
          refine wpAnyIn_done (by kernel_rfl) ?_ _
          exact hK _ _ _ _ _ s40
        · have s41 := s36.box5 (.slice none 0 0)
          go_simp
          refine hK1 _ _ ?_
          clear hK1 K1 s36
          generalize W36.alloc (.cells #[.slice none 0 0] 107) = W41 at s41 ⊢
          generalize W36.heap.size = g41 at s41 ⊢
          refine wpAnyIn_ready (rs := [2]) (by kernel_rfl) (by simp) ?_
          refine AllReadyIn.cons rfl (fun K1 hK1 => ?_) (AllReadyIn.nil)
          have s42 := s41.box4 (.slice none 0 0)
          go_simp
          refine hK1 _ _ ?_
          clear hK1 K1 s41
          generalize W41.alloc (.cells #[.slice none 0 0] 107) = W42 at s42 ⊢
          generalize W41.heap.size = g42 at s42 ⊢
          refine wpAnyIn_ready (rs := [4]) (by kernel_rfl) (by simp) ?_
          refine AllReadyIn.cons rfl (fun K1 hK1 => ?_) (AllReadyIn.nil)
          have hc := (s42.2.2.2.1 _ _ rfl).2.cell
          have hf := (s42.2.2.2.1 _ _ rfl).2.frozen
          have s43 := s42.put4 (.slice (some ⟨g36, 0, none⟩) 286 286)
          go_simp
          refine hK1 _ _ ?_
          clear hK1 K1 hc hf s42
          generalize W42.setCell ⟨g42, 0, none⟩ (.slice (some ⟨g36, 0, none⟩) 286 286) = W43 at s43 ⊢
          refine wpAnyIn_ready (rs := [5]) (by kernel_rfl) (by simp) ?_
          refine AllReadyIn.cons rfl (fun K1 hK1 => ?_) (AllReadyIn.nil)
          have hc := (s43.2.2.2.2.1 _ _ rfl).2.cell
          have hf := (s43.2.2.2.2.1 _ _ rfl).2.frozen
          have s44 := s43.put5 (.slice (some ⟨g35, 0, none⟩) 30 30)
          go_simp
          refine hK1 _ _ ?_
          clear hK1 K1 hc hf s43
          generalize W43.setCell ⟨g41, 0, none⟩ (.slice (some ⟨g35, 0, none⟩) 30 30) = W44 at s44 ⊢
          refine wpAnyIn_done (by kernel_rfl) ?_ _
          exact hK _ _ _ _ _ s44
      · have s45 := s35.box4 (.slice none 0 0)
        go_simp
        refine hK1 _ _ ?_
        clear hK1 K1 s35
        generalize W35.alloc (.cells #[.slice none 0 0] 107) = W45 at s45 ⊢
        generalize W35.heap.size = g45 at s45 ⊢
        refine wpAnyIn_ready (rs := [0, 3]) (by kernel_rfl) (by simp) ?_
        refine AllReadyIn.cons rfl (fun K1 hK1 => ?_) (AllReadyIn.cons rfl (fun K1 hK1 => ?_) (AllReadyIn.nil))
        · refine step_make_in rfl _ _ 107 rfl w.heap.size 3 i0 (.int .i64 0) 1 Tryz.underlying107 hi hz0 hz1 .i64 .i64 286 286 286 rfl rfl rfl rfl (by rw [hz2]; omega) (by unfold maxLen; omega) s45.2.2.2.2.2.2.2 ?_
          intro g46 W46 hg46 ho hgr
          have s46 := s45.make10 hgr hg46 (made_ints ho)
          refine hK1 _ _ ?_
          clear hK1 K1 ho hgr hg46 s45
          refine wpAnyIn_ready (rs := [3]) (by kernel_rfl) (by simp) ?_
          refine AllReadyIn.cons rfl (fun K1 hK1 => ?_) (AllReadyIn.nil)
          have s47 := s46.box5 (.slice none 0 0)
          go_simp
          refine hK1 _ _ ?_
          clear hK1 K1 s46
          generalize W46.alloc (.cells #[.slice none 0 0] 107) = W47 at s47 ⊢
          generalize W46.heap.size = g47 at s47 ⊢
          refine wpAnyIn_ready (rs := [4]) (by kernel_rfl) (by simp) ?_
          refine AllReadyIn.cons rfl (fun K1 hK1 => ?_) (AllReadyIn.nil)
          have hc := (s47.2.2.2.1 _ _ rfl).2.cell
          have hf := (s47.2.2.2.1 _ _ rfl).2.frozen
          have s48 := s47.put4 (.slice (some ⟨g46, 0, none⟩) 286 286)
          go_simp
          refine hK1 _ _ ?_
          clear hK1 K1 hc hf s47
          generalize W47.setCell ⟨g45, 0, none⟩ (.slice (some ⟨g46, 0, none⟩) 286 286) = W48 at s48 ⊢
          refine wpAnyIn_ready (rs := [5]) (by kernel_rfl) (by simp) ?_
          refine AllReadyIn.cons rfl (fun K1 hK1 => ?_) (AllReadyIn.nil)
          have hc := (s48.2.2.2.2.1 _ _ rfl).2.cell
          have hf := (s48.2.2.2.2.1 _ _ rfl).2.frozen
          have s49 := s48.put5 (.slice (some ⟨g35, 0, none⟩) 30 30)
          go_simp
          refine hK1 _ _ ?_
          clear hK1 K1 hc hf s48
          generalize W48.setCell ⟨g47, 0, none⟩ (.slice (some ⟨g35, 0, none⟩) 30 30) = W49 at s49 ⊢
          refine wpAnyIn_done (by kernel_rfl) ?_ _
          exact hK _ _ _ _ _ s49
        · have s50 := s45.box5 (.slice none 0 0)
          go_simp
          refine hK1 _ _ ?_
          clear hK1 K1 s45
          generalize W45.alloc (.cells #[.slice none 0 0] 107) = W50 at s50 ⊢
          generalize W45.heap.size = g50 at s50 ⊢
          refine wpAnyIn_ready (rs := [0]) (by kernel_rfl) (by simp) ?_
          refine AllReadyIn.cons rfl (fun K1 hK1 => ?_) (AllReadyIn.nil)
          refine step_make_in rfl _ _ 107 rfl w.heap.size 3 i0 (.int .i64 0) 1 Tryz.underlying107 hi hz0 hz1 .i64 .i64 286 286 286 rfl rfl rfl rfl (by rw [hz2]; omega) (by unfold maxLen; omega) s50.2.2.2.2.2.2.2 ?_
          intro g51 W51 hg51 ho hgr
          have s51 := s50.make10 hgr hg51 (made_ints ho)
          refine hK1 _ _ ?_
          clear hK1 K1 ho hgr hg51 s50
          refine wpAnyIn_ready (rs := [4]) (by kernel_rfl) (by simp) ?_
          refine AllReadyIn.cons rfl (fun K1 hK1 => ?_) (AllReadyIn.nil)
          have hc := (s51.2.2.2.1 _ _ rfl).2.cell
          have hf := (s51.2.2.2.1 _ _ rfl).2.frozen
          have s52 := s51.put4 (.slice (some ⟨g51, 0, none⟩) 286 286)
          go_simp
          refine hK1 _ _ ?_
          clear hK1 K1 hc hf s51
          generalize W51.setCell ⟨g45, 0, none⟩ (.slice (some ⟨g51, 0, none⟩) 286 286) = W52 at s52 ⊢
          refine wpAnyIn_ready (rs := [5]) (by kernel_rfl) (by simp) ?_
          refine AllReadyIn.cons rfl (fun K1 hK1 => ?_) (AllReadyIn.nil)
          have hc := (s52.2.2.2.2.1 _ _ rfl).2.cell
          have hf := (s52.2.2.2.2.1 _ _ rfl).2.frozen
          have s53 := s52.put5 (.slice (some ⟨g35, 0, none⟩) 30 30)
          go_simp
          refine hK1 _ _ ?_
          clear hK1 K1 hc hf s52
          generalize W52.setCell ⟨g50, 0, none⟩ (.slice (some ⟨g35, 0, none⟩) 30 30) = W53 at s53 ⊢
          refine wpAnyIn_done (by kernel_rfl) ?_ _
          exact hK _ _ _ _ _ s53
      · have s54 := s35.box5 (.slice none 0 0)
        go_simp
        refine hK1 _ _ ?_
        clear hK1 K1 s35
        generalize W35.alloc (.cells #[.slice none 0 0] 107) = W54 at s54 ⊢
        generalize W35.heap.size = g54 at s54 ⊢
        refine wpAnyIn_ready (rs := [0, 2]) (by kernel_rfl) (by simp) ?_
        refine AllReadyIn.cons rfl (fun K1 hK1 => ?_) (AllReadyIn.cons rfl (fun K1 hK1 => ?_) (AllReadyIn.nil))
        · refine step_make_in rfl _ _ 107 rfl w.heap.size 3 i0 (.int .i64 0) 1 Tryz.underlying107 hi hz0 hz1 .i64 .i64 286 286 286 rfl rfl rfl rfl (by rw [hz2]; omega) (by unfold maxLen; omega) s54.2.2.2.2.2.2.2 ?_
          intro g55 W55 hg55 ho hgr
          have s55 := s54.make10 hgr hg55 (made_ints ho)
          refine hK1 _ _ ?_
          clear hK1 K1 ho hgr hg55 s54
          refine wpAnyIn_ready (rs := [2]) (by kernel_rfl) (by simp) ?_
          refine AllReadyIn.cons rfl (fun K1 hK1 => ?_) (AllReadyIn.nil)
          have s56 := s55.box4 (.slice none 0 0)
          go_simp
          refine hK1 _ _ ?_
          clear hK1 K1 s55
          generalize W55.alloc (.cells #[.slice none 0 0] 107) = W56 at s56 ⊢
          generalize W55.heap.size = g56 at s56 ⊢
          refine wpAnyIn_ready (rs := [4]) (by kernel_rfl) (by simp) ?_
          refine AllReadyIn.cons rfl (fun K1 hK1 => ?_) (AllReadyIn.nil)
          have hc := (s56.2.2.2.1 _ _ rfl).2.cell
          have hf := (s56.2.2.2.1 _ _ rfl).2.frozen
          have s57 := s56.put4 (.slice (some ⟨g55, 0, none⟩) 286 286)
          go_simp
          refine hK1 _ _ ?_
          clear hK1 K1 hc hf s56
          generalize W56.setCell ⟨g56, 0, none⟩ (.slice (some ⟨g55, 0, none⟩) 286 286) = W57 at s57 ⊢
          refine wpAnyIn_ready (rs := [5]) (by kernel_rfl) (by simp) ?_
          refine AllReadyIn.cons rfl (fun K1 hK1 => ?_) (AllReadyIn.nil)
          have hc := (s57.2.2.2.2.1 _ _ rfl).2.cell
          have hf := (s57.2.2.2.2.1 _ _ rfl).2.frozen
          have s58 := s57.put5 (.slice (some ⟨g35, 0, none⟩) 30 30)
          go_simp
          refine hK1 _ _ ?_
          clear hK1 K1 hc hf s57
          generalize W57.setCell ⟨g54, 0, none⟩ (.slice (some ⟨g35, 0, none⟩) 30 30) = W58 at s58 ⊢
          refine wpAnyIn_done (by kernel_rfl) ?_ _
          exact hK _ _ _ _ _ s58
        · have s59 := s54.box4 (.slice none 0 0)
          go_simp
          refine hK1 _ _ ?_
          clear hK1 K1 s54
          generalize W54.alloc (.cells #[.slice none 0 0] 107) = W59 at s59 ⊢
          generalize W54.heap.size = g59 at s59 ⊢
          refine wpAnyIn_ready (rs := [0]) (by kernel_rfl) (by simp) ?_
          refine AllReadyIn.cons rfl (fun K1 hK1 => ?_) (AllReadyIn.nil)
          refine step_make_in rfl _ _ 107 rfl w.heap.size 3 i0 (.int .i64 0) 1 Tryz.underlying107 hi hz0 hz1 .i64 .i64 286 286 286 rfl rfl rfl rfl (by rw [hz2]; omega) (by unfold maxLen; omega) s59.2.2.2.2.2.2.2 ?_
          intro g60 W60 hg60 ho hgr
          have s60 := s59.make10 hgr hg60 (made_ints ho)
          refine hK1 _ _ ?_
          clear hK1 K1 ho hgr hg60 s59
          refine wpAnyIn_ready (rs := [4]) (by kernel_rfl) (by simp) ?_
          refine AllReadyIn.cons rfl (fun K1 hK1 => ?_) (AllReadyIn.nil)
          have hc := (s60.2.2.2.1 _ _ rfl).2.cell
          have hf := (s60.2.2.2.1 _ _ rfl).2.frozen
          have s61 := s60.put4 (.slice (some ⟨g60, 0, none⟩) 286 286)
          go_simp
          refine hK1 _ _ ?_
          clear hK1 K1 hc hf s60
          generalize W60.setCell ⟨g59, 0, none⟩ (.slice (some ⟨g60, 0, none⟩) 286 286) = W61 at s61 ⊢
          refine wpAnyIn_ready (rs := [5]) (by kernel_rfl) (by simp) ?_
          refine AllReadyIn.cons rfl (fun K1 hK1 => ?_) (AllReadyIn.nil)
          have hc := (s61.2.2.2.2.1 _ _ rfl).2.cell
          have hf := (s61.2.2.2.2.1 _ _ rfl).2.frozen
          have s62 := s61.put5 (.slice (some ⟨g35, 0, none⟩) 30 30)
          go_simp
          refine hK1 _ _ ?_
          clear hK1 K1 hc hf s61
          generalize W61.setCell ⟨g54, 0, none⟩ (.slice (some ⟨g35, 0, none⟩) 30 30) = W62 at s62 ⊢
          refine wpAnyIn_done (by kernel_rfl) ?_ _
          exact hK _ _ _ _ _ s62
    · have s63 := hs0.box4 (.slice none 0 0)
      go_simp
      refine hK1 _ _ ?_
      clear hK1 K1 hs0
      generalize W0.alloc (.cells #[.slice none 0 0] 107) = W63 at s63 ⊢
      generalize W0.heap.size = g63 at s63 ⊢
      refine wpAnyIn_ready (rs := [0, 1, 3]) (by kernel_rfl) (by simp) ?_
      refine AllReadyIn.cons rfl (fun K1 hK1 => ?_) (AllReadyIn.cons rfl (fun K1 hK1 => ?_) (AllReadyIn.cons rfl (fun K1 hK1 => ?_) (AllReadyIn.nil)))
      · refine step_make_in rfl _ _ 107 rfl w.heap.size 3 i0 (.int .i64 0) 1 Tryz.underlying107 hi hz0 hz1 .i64 .i64 286 286 286 rfl rfl rfl rfl (by rw [hz2]; omega) (by unfold maxLen; omega) s63.2.2.2.2.2.2.2 ?_
        intro g64 W64 hg64 ho hgr
        have s64 := s63.make10 hgr hg64 (made_ints ho)
        refine hK1 _ _ ?_
        clear hK1 K1 ho hgr hg64 s63
        refine wpAnyIn_ready (rs := [1, 3]) (by kernel_rfl) (by simp) ?_
        refine AllReadyIn.cons rfl (fun K1 hK1 => ?_) (AllReadyIn.cons rfl (fun K1 hK1 => ?_) (AllReadyIn.nil))
        · refine step_make_in rfl _ _ 107 rfl w.heap.size 3 i0 (.int .i64 0) 1 Tryz.underlying107 hi hz0 hz1 .i64 .i64 30 30 30 rfl rfl rfl rfl (by rw [hz2]; omega) (by unfold maxLen; omega) s64.2.2.2.2.2.2.2 ?_
          intro g65 W65 hg65 ho hgr
          have s65 := s64.make11 hgr hg65 (made_ints ho)
          refine hK1 _ _ ?_
          clear hK1 K1 ho hgr hg65 s64
          refine wpAnyIn_ready (rs := [3]) (by kernel_rfl) (by simp) ?_
          refine AllReadyIn.cons rfl (fun K1 hK1 => ?_) (AllReadyIn.nil)
          have s66 := s65.box5 (.slice none 0 0)
          go_simp
          refine hK1 _ _ ?_
          clear hK1 K1 s65
          generalize W65.alloc (.cells #[.slice none 0 0] 107) = W66 at s66 ⊢
          generalize W65.heap.size = g66 at s66 ⊢
          refine wpAnyIn_ready (rs := [4]) (by kernel_rfl) (by simp) ?_
          refine AllReadyIn.cons rfl (fun K1 hK1 => ?_) (AllReadyIn.nil)
          have hc := (s66.2.2.2.1 _ _ rfl).2.cell
          have hf := (s66.2.2.2.1 _ _ rfl).2.frozen
          have s67 := s66.put4 (.slice (some ⟨g64, 0, none⟩) 286 286)
          go_simp
          refine hK1 _ _ ?_
          clear hK1 K1 hc hf s66
          generalize W66.setCell ⟨g63, 0, none⟩ (.slice (some ⟨g64, 0, none⟩) 286 286) = W67 at s67 ⊢
          refine wpAnyIn_ready (rs := [5]) (by kernel_rfl) (by simp) ?_
          refine AllReadyIn.cons rfl (fun K1 hK1 => ?_) (AllReadyIn.nil)
          have hc := (s67.2.2.2.2.1 _ _ rfl).2.cell
          have hf := (s67.2.2.2.2.1 _ _ rfl).2.frozen
          have s68 := s67.put5 (.slice (some ⟨g65, 0, none⟩) 30 30)
          go_simp
          refine hK1 _ _ ?_
          clear hK1 K1 hc hf s67
          generalize W67.setCell ⟨g66, 0, none⟩ (.slice (some ⟨g65, 0, none⟩) 30 30) = W68 at s68 ⊢
          refine wpAnyIn_done (by kernel_rfl) ?_ _
          exact hK _ _ _ _ _ s68
        · have s69 := s64.box5 (.slice none 0 0)
          go_simp
          refine hK1 _ _ ?_
          clear hK1 K1 s64
          generalize W64.alloc (.cells #[.slice none 0 0] 107) = W69 at s69 ⊢
          generalize W64.heap.size = g69 at s69 ⊢
          refine wpAnyIn_ready (rs := [1, 4]) (by kernel_rfl) (by simp) ?_
          refine AllReadyIn.cons rfl (fun K1 hK1 => ?_) (AllReadyIn.cons rfl (fun K1 hK1 => ?_) (AllReadyIn.nil))
          · refine step_make_in rfl _ _ 107 rfl w.heap.size 3 i0 (.int .i64 0) 1 Tryz.underlying107 hi hz0 hz1 .i64 .i64 30 30 30 rfl rfl rfl rfl (by rw [hz2]; omega) (by unfold maxLen; omega) s69.2.2.2.2.2.2.2 ?_
            intro g70 W70 hg70 ho hgr
            have s70 := s69.make11 hgr hg70 (made_ints ho)
            refine hK1 _ _ ?_
            clear hK1 K1 ho hgr hg70 s69
            refine wpAnyIn_ready (rs := [4]) (by kernel_rfl) (by simp) ?_
            refine AllReadyIn.cons rfl (fun K1 hK1 => ?_) (AllReadyIn.nil)
            have hc := (s70.2.2.2.1 _ _ rfl).2.cell
            have hf := (s70.2.2.2.1 _ _ rfl).2.frozen
            have s71 := s70.put4 (.slice (some ⟨g64, 0, none⟩) 286 286)
            go_simp
            refine hK1 _ _ ?_
            clear hK1 K1 hc hf s70
            generalize W70.setCell ⟨g63, 0, none⟩ (.slice (some ⟨g64, 0, none⟩) 286 286) = W71 at s71 ⊢
            refine wpAnyIn_ready (rs := [5]) (by kernel_rfl) (by simp) ?_
            refine AllReadyIn.cons rfl (fun K1 hK1 => ?_) (AllReadyIn.nil)
            have hc := (s71.2.2.2.2.1 _ _ rfl).2.cell
            have hf := (s71.2.2.2.2.1 _ _ rfl).2.frozen
            have s72 := s71.put5 (.slice (some ⟨g70, 0, none⟩) 30 30)
            go_simp
            refine hK1 _ _ ?_
            clear hK1 K1 hc hf s71
            generalize W71.setCell ⟨g69, 0, none⟩ (.slice (some ⟨g70, 0, none⟩) 30 30) = W72 at s72 ⊢
            refine wpAnyIn_done (by kernel_rfl) ?_ _
            exact hK _ _ _ _ _ s72
          · have hc := (s69.2.2.2.1 _ _ rfl).2.cell
            have hf := (s69.2.2.2.1 _ _ rfl).2.frozen
            have s73 := s69.put4 (.slice (some ⟨g64, 0, none⟩) 286 286)
            go_simp
            refine hK1 _ _ ?_
            clear hK1 K1 hc hf s69
            generalize W69.setCell ⟨g63, 0, none⟩ (.slice (some ⟨g64, 0, none⟩) 286 286) = W73 at s73 ⊢
            refine wpAnyIn_ready (rs := [1]) (by kernel_rfl) (by simp) ?_
            refine AllReadyIn.cons rfl (fun K1 hK1 => ?_) (AllReadyIn.nil)
            refine step_make_in rfl _ _ 107 rfl w.heap.size 3 i0 (.int .i64 0) 1 Tryz.underlying107 hi hz0 hz1 .i64 .i64 30 30 30 rfl rfl rfl rfl (by rw [hz2]; omega) (by unfold maxLen; omega) s73.2.2.2.2.2.2.2 ?_
            intro g74 W74 hg74 ho hgr
            have s74 := s73.make11 hgr hg74 (made_ints ho)
            refine hK1 _ _ ?_
            clear hK1 K1 ho hgr hg74 s73
            refine wpAnyIn_ready (rs := [5]) (by kernel_rfl) (by simp) ?_
            refine AllReadyIn.cons rfl (fun K1 hK1 => ?_) (AllReadyIn.nil)
            have hc := (s74.2.2.2.2.1 _ _ rfl).2.cell
            have hf := (s74.2.2.2.2.1 _ _ rfl).2.frozen
            have s75 := s74.put5 (.slice (some ⟨g74, 0, none⟩) 30 30)
            go_simp
            refine hK1 _ _ ?_
            clear hK1 K1 hc hf s74
            generalize W74.setCell ⟨g69, 0, none⟩ (.slice (some ⟨g74, 0, none⟩) 30 30) = W75 at s75 ⊢
            refine wpAnyIn_done (by kernel_rfl) ?_ _
            exact hK _ _ _ _ _ s75
      · refine step_make_in rfl _ _ 107 rfl w.heap.size 3 i0 (.int .i64 0) 1 Tryz.underlying107 hi hz0 hz1 .i64 .i64 30 30 30 rfl rfl rfl rfl (by rw [hz2]; omega) (by unfold maxLen; omega) s63.2.2.2.2.2.2.2 ?_
        intro g76 W76 hg76 ho hgr
        have s76 := s63.make11 hgr hg76 (made_ints ho)
        refine hK1 _ _ ?_
        clear hK1 K1 ho hgr hg76 s63
        refine wpAnyIn_ready (rs := [0, 3]) (by kernel_rfl) (by simp) ?_
        refine AllReadyIn.cons rfl (fun K1 hK1 => ?_) (AllReadyIn.cons rfl (fun K1 hK1 => ?_) (AllReadyIn.nil))
        · refine step_make_in rfl _ _ 107 rfl w.heap.size 3 i0 (.int .i64 0) 1 Tryz.underlying107 hi hz0 hz1 .i64 .i64 286 286 286 rfl rfl rfl rfl (by rw [hz2]; omega) (by unfold maxLen; omega) s76.2.2.2.2.2.2.2 ?_
          intro g77 W77 hg77 ho hgr
          have s77 := s76.make10 hgr hg77 (made_ints ho)
          refine hK1 _ _ ?_
          clear hK1 K1 ho hgr hg77 s76
          refine wpAnyIn_ready (rs := [3]) (by kernel_rfl) (by simp) ?_
          refine AllReadyIn.cons rfl (fun K1 hK1 => ?_) (AllReadyIn.nil)
          have s78 := s77.box5 (.slice none 0 0)
          go_simp
          refine hK1 _ _ ?_
          clear hK1 K1 s77
          generalize W77.alloc (.cells #[.slice none 0 0] 107) = W78 at s78 ⊢
          generalize W77.heap.size = g78 at s78 ⊢
          refine wpAnyIn_ready (rs := [4]) (by kernel_rfl) (by simp) ?_
          refine AllReadyIn.cons rfl (fun K1 hK1 => ?_) (AllReadyIn.nil)
          have hc := (s78.2.2.2.1 _ _ rfl).2.cell
          have hf := (s78.2.2.2.1 _ _ rfl).2.frozen
          have s79 := s78.put4 (.slice (some ⟨g77, 0, none⟩) 286 286)
          go_simp
          refine hK1 _ _ ?_
          clear hK1 K1 hc hf s78
          generalize W78.setCell ⟨g63, 0, none⟩ (.slice (some ⟨g77, 0, none⟩) 286 286) = W79 at s79 ⊢
          refine wpAnyIn_ready (rs := [5]) (by kernel_rfl) (by simp) ?_
          refine AllReadyIn.cons rfl (fun K1 hK1 => ?_) (AllReadyIn.nil)
          have hc := (s79.2.2.2.2.1 _ _ rfl).2.cell
          have hf := (s79.2.2.2.2.1 _ _ rfl).2.frozen
          have s80 := s79.put5 (.slice (some ⟨g76, 0, none⟩) 30 30)
          go_simp
          refine hK1 _ _ ?_
          clear hK1 K1 hc hf s79
          generalize W79.setCell ⟨g78, 0, none⟩ (.slice (some ⟨g76, 0, none⟩) 30 30) = W80 at s80 ⊢
          refine wpAnyIn_done (by kernel_rfl) ?_ _
          exact hK _ _ _ _ _ s80
        · have s81 := s76.box5 (.slice none 0 0)
          go_simp
          refine hK1 _ _ ?_
          clear hK1 K1 s76
          generalize W76.alloc (.cells #[.slice none 0 0] 107) = W81 at s81 ⊢
          generalize W76.heap.size = g81 at s81 ⊢
          refine wpAnyIn_ready (rs := [0]) (by kernel_rfl) (by simp) ?_
          refine AllReadyIn.cons rfl (fun K1 hK1 => ?_) (AllReadyIn.nil)
          refine step_make_in rfl _ _ 107 rfl w.heap.size 3 i0 (.int .i64 0) 1 Tryz.underlying107 hi hz0 hz1 .i64 .i64 286 286 286 rfl rfl rfl rfl (by rw [hz2]; omega) (by unfold maxLen; omega) s81.2.2.2.2.2.2.2 ?_
          intro g82 W82 hg82 ho hgr
          have s82 := s81.make10 hgr hg82 (made_ints ho)
          refine hK1 _ _ ?_
          clear hK1 K1 ho hgr hg82 s81
          refine wpAnyIn_ready (rs := [4]) (by kernel_rfl) (by simp) ?_
          refine AllReadyIn.cons rfl (fun K1 hK1 => ?_) (AllReadyIn.nil)
          have hc := (s82.2.2.2.1 _ _ rfl).2.cell
          have hf := (s82.2.2.2.1 _ _ rfl).2.frozen
          have s83 := s82.put4 (.slice (some ⟨g82, 0, none⟩) 286 286)
          go_simp
          refine hK1 _ _ ?_
          clear hK1 K1 hc hf s82
          generalize W82.setCell ⟨g63, 0, none⟩ (.slice (some ⟨g82, 0, none⟩) 286 286) = W83 at s83 ⊢
          refine wpAnyIn_ready (rs := [5]) (by kernel_rfl) (by simp) ?_
          refine AllReadyIn.cons rfl (fun K1 hK1 => ?_) (AllReadyIn.nil)
          have hc := (s83.2.2.2.2.1 _ _ rfl).2.cell
          have hf := (s83.2.2.2.2.1 _ _ rfl).2.frozen
          have s84 := s83.put5 (.slice (some ⟨g76, 0, none⟩) 30 30)
          go_simp
          refine hK1 _ _ ?_
          clear hK1 K1 hc hf s83
          generalize W83.setCell ⟨g81, 0, none⟩ (.slice (some ⟨g76, 0, none⟩) 30 30) = W84 at s84 ⊢
          refine wpAnyIn_done (by kernel_rfl) ?_ _
          exact hK _ _ _ _ _ s84
      · have s85 := s63.box5 (.slice none 0 0)
        go_simp
        refine hK1 _ _ ?_
        clear hK1 K1 s63
        generalize W63.alloc (.cells #[.slice none 0 0] 107) = W85 at s85 ⊢
        generalize W63.heap.size = g85 at s85 ⊢
        refine wpAnyIn_ready (rs := [0, 1]) (by kernel_rfl) (by simp) ?_
        refine AllReadyIn.cons rfl (fun K1 hK1 => ?_) (AllReadyIn.cons rfl (fun K1 hK1 => ?_) (AllReadyIn.nil))
        · refine step_make_in rfl _ _ 107 rfl w.heap.size 3 i0 (.int .i64 0) 1 Tryz.underlying107 hi hz0 hz1 .i64 .i64 286 286 286 rfl rfl rfl rfl (by rw [hz2]; omega) (by unfold maxLen; omega) s85.2.2.2.2.2.2.2 ?_
          intro g86 W86 hg86 ho hgr
          have s86 := s85.make10 hgr hg86 (made_ints ho)
          refine hK1 _ _ ?_
          clear hK1 K1 ho hgr hg86 s85
          refine wpAnyIn_ready (rs := [1, 4]) (by kernel_rfl) (by simp) ?_
          refine AllReadyIn.cons rfl (fun K1 hK1 => ?_) (AllReadyIn.cons rfl (fun K1 hK1 => ?_) (AllReadyIn.nil))
          · refine step_make_in rfl _ _ 107 rfl w.heap.size 3 i0 (.int .i64 0) 1 Tryz.underlying107 hi hz0 hz1 .i64 .i64 30 30 30 rfl rfl rfl rfl (by rw [hz2]; omega) (by unfold maxLen; omega) s86.2.2.2.2.2.2.2 ?_
            intro g87 W87 hg87 ho hgr
            have s87 := s86.make11 hgr hg87 (made_ints ho)
            refine hK1 _ _ ?_
            clear hK1 K1 ho hgr hg87 s86
            refine wpAnyIn_ready (rs := [4]) (by kernel_rfl) (by simp) ?_
            refine AllReadyIn.cons rfl (fun K1 hK1 => ?_) (AllReadyIn.nil)
            have hc := (s87.2.2.2.1 _ _ rfl).2.cell
            have hf := (s87.2.2.2.1 _ _ rfl).2.frozen
            have s88 := s87.put4 (.slice (some ⟨g86, 0, none⟩) 286 286)
            go_simp
            refine hK1 _ _ ?_
            clear hK1 K1 hc hf s87
            generalize W87.setCell ⟨g63, 0, none⟩ (.slice (some ⟨g86, 0, none⟩) 286 286) = W88 at s88 ⊢
            refine wpAnyIn_ready (rs := [5]) (by kernel_rfl) (by simp) ?_
            refine AllReadyIn.cons rfl (fun K1 hK1 => ?_) (AllReadyIn.nil)
            have hc := (s88.2.2.2.2.1 _ _ rfl).2.cell
            have hf := (s88.2.2.2.2.1 _ _ rfl).2.frozen
            have s89 := s88.put5 (.slice (some ⟨g87, 0, none⟩) 30 30)
            go_simp
            refine hK1 _ _ ?_
            clear hK1 K1 hc hf s88
            generalize W88.setCell ⟨g85, 0, none⟩ (.slice (some ⟨g87, 0, none⟩) 30 30) = W89 at s89 ⊢
            refine wpAnyIn_done (by kernel_rfl) ?_ _
            exact hK _ _ _ _ _ s89
          · have hc := (s86.2.2.2.1 _ _ rfl).2.cell
            have hf := (s86.2.2.2.1 _ _ rfl).2.frozen
            have s90 := s86.put4 (.slice (some ⟨g86, 0, none⟩) 286 286)
            go_simp
            refine hK1 _ _ ?_
            clear hK1 K1 hc hf s86
            generalize W86.setCell ⟨g63, 0, none⟩ (.slice (some ⟨g86, 0, none⟩) 286 286) = W90 at s90 ⊢
            refine wpAnyIn_ready (rs := [1]) (by kernel_rfl) (by simp) ?_
            refine AllReadyIn.cons rfl (fun K1 hK1 => ?_) (AllReadyIn.nil)
            refine step_make_in rfl _ _ 107 rfl w.heap.size 3 i0 (.int .i64 0) 1 Tryz.underlying107 hi hz0 hz1 .i64 .i64 30 30 30 rfl rfl rfl rfl (by rw [hz2]; omega) (by unfold maxLen; omega) s90.2.2.2.2.2.2.2 ?_
            intro g91 W91 hg91 ho hgr
            have s91 := s90.make11 hgr hg91 (made_ints ho)
            refine hK1 _ _ ?_
            clear hK1 K1 ho hgr hg91 s90
            refine wpAnyIn_ready (rs := [5]) (by kernel_rfl) (by simp) ?_
            refine AllReadyIn.cons rfl (fun K1 hK1 => ?_) (AllReadyIn.nil)
            have hc := (s91.2.2.2.2.1 _ _ rfl).2.cell
            have hf := (s91.2.2.2.2.1 _ _ rfl).2.frozen
            have s92 := s91.put5 (.slice (some ⟨g91, 0, none⟩) 30 30)
            go_simp
            refine hK1 _ _ ?_
            clear hK1 K1 hc hf s91
            generalize W91.setCell ⟨g85, 0, none⟩ (.slice (some ⟨g91, 0, none⟩) 30 30) = W92 at s92 ⊢
            refine wpAnyIn_done (by kernel_rfl) ?_ _
            exact hK _ _ _ _ _ s92
        · refine step_make_in rfl _ _ 107 rfl w.heap.size 3 i0 (.int .i64 0) 1 Tryz.underlying107 hi hz0 hz1 .i64 .i64 30 30 30 rfl rfl rfl rfl (by rw [hz2]; omega) (by unfold maxLen; omega) s85.2.2.2.2.2.2.2 ?_
          intro g93 W93 hg93 ho hgr
          have s93 := s85.make11 hgr hg93 (made_ints ho)
          refine hK1 _ _ ?_
          clear hK1 K1 ho hgr hg93 s85
          refine wpAnyIn_ready (rs := [0]) (by kernel_rfl) (by simp) ?_
          refine AllReadyIn.cons rfl (fun K1 hK1 => ?_) (AllReadyIn.nil)
          refine step_make_in rfl _ _ 107 rfl w.heap.size 3 i0 (.int .i64 0) 1 Tryz.underlying107 hi hz0 hz1 .i64 .i64 286 286 286 rfl rfl rfl rfl (by rw [hz2]; omega) (by unfold maxLen; omega) s93.2.2.2.2.2.2.2 ?_
          intro g94 W94 hg94 ho hgr
          have s94 := s93.make10 hgr hg94 (made_ints ho)
          refine hK1 _ _ ?_
          clear hK1 K1 ho hgr hg94 s93
          refine wpAnyIn_ready (rs := [4]) (by kernel_rfl) (by simp) ?_
          refine AllReadyIn.cons rfl (fun K1 hK1 => ?_) (AllReadyIn.nil)
          have hc := (s94.2.2.2.1 _ _ rfl).2.cell
          have hf := (s94.2.2.2.1 _ _ rfl).2.frozen
          have s95 := s94.put4 (.slice (some ⟨g94, 0, none⟩) 286 286)
          go_simp
          refine hK1 _ _ ?_
          clear hK1 K1 hc hf s94
          generalize W94.setCell ⟨g63, 0, none⟩ (.slice (some ⟨g94, 0, none⟩) 286 286) = W95 at s95 ⊢
          refine wpAnyIn_ready (rs := [5]) (by kernel_rfl) (by simp) ?_
          refine AllReadyIn.cons rfl (fun K1 hK1 => ?_) (AllReadyIn.nil)
          have hc := (s95.2.2.2.2.1 _ _ rfl).2.cell
          have hf := (s95.2.2.2.2.1 _ _ rfl).2.frozen
          have s96 := s95.put5 (.slice (some ⟨g93, 0, none⟩) 30 30)
          go_simp
          refine hK1 _ _ ?_
          clear hK1 K1 hc hf s95
          generalize W95.setCell ⟨g85, 0, none⟩ (.slice (some ⟨g93, 0, none⟩) 30 30) = W96 at s96 ⊢
          refine wpAnyIn_done (by kernel_rfl) ?_ _
          exact hK _ _ _ _ _ s96
    · have s97 := hs0.box5 (.slice none 0 0)
      go_simp
      refine hK1 _ _ ?_
      clear hK1 K1 hs0
      generalize W0.alloc (.cells #[.slice none 0 0] 107) = W97 at s97 ⊢
      generalize W0.heap.size = g97 at s97 ⊢
      refine wpAnyIn_ready (rs := [0, 1, 2]) (by kernel_rfl) (by simp) ?_
      refine AllReadyIn.cons rfl (fun K1 hK1 => ?_) (AllReadyIn.cons rfl (fun K1 hK1 => ?_) (AllReadyIn.cons rfl (fun K1 hK1 => ?_) (AllReadyIn.nil)))
      · refine step_make_in rfl _ _ 107 rfl w.heap.size 3 i0 (.int .i64 0) 1 Tryz.underlying107 hi hz0 hz1 .i64 .i64 286 286 286 rfl rfl rfl rfl (by rw [hz2]; omega) (by unfold maxLen; omega) s97.2.2.2.2.2.2.2 ?_
        intro g98 W98 hg98 ho hgr
        have s98 := s97.make10 hgr hg98 (made_ints ho)
        refine hK1 _ _ ?_
        clear hK1 K1 ho hgr hg98 s97
        refine wpAnyIn_ready (rs := [1, 2]) (by kernel_rfl) (by simp) ?_
        refine AllReadyIn.cons rfl (fun K1 hK1 => ?_) (AllReadyIn.cons rfl (fun K1 hK1 => ?_) (AllReadyIn.nil))
        · refine step_make_in rfl _ _ 107 rfl w.heap.size 3 i0 (.int .i64 0) 1 Tryz.underlying107 hi hz0 hz1 .i64 .i64 30 30 30 rfl rfl rfl rfl (by rw [hz2]; omega) (by unfold maxLen; omega) s98.2.2.2.2.2.2.2 ?_
          intro g99 W99 hg99 ho hgr
          have s99 := s98.make11 hgr hg99 (made_ints ho)
          refine hK1 _ _ ?_
          clear hK1 K1 ho hgr hg99 s98
          refine wpAnyIn_ready (rs := [2]) (by kernel_rfl) (by simp) ?_
          refine AllReadyIn.cons rfl (fun K1 hK1 => ?_) (AllReadyIn.nil)
          have s100 := s99.box4 (.slice none 0 0)
          go_simp
          refine hK1 _ _ ?_
          clear hK1 K1 s99
          generalize W99.alloc (.cells #[.slice none 0 0] 107) = W100 at s100 ⊢
          generalize W99.heap.size = g100 at s100 ⊢
          refine wpAnyIn_ready (rs := [4]) (by kernel_rfl) (by simp) ?_
          refine AllReadyIn.cons rfl (fun K1 hK1 => ?_) (AllReadyIn.nil)
          have hc := (s100.2.2.2.1 _ _ rfl).2.cell
          have hf := (s100.2.2.2.1 _ _ rfl).2.frozen
          have s101 := s100.put4 (.slice (some ⟨g98, 0, none⟩) 286 286)
          go_simp
          refine hK1 _ _ ?_
          clear hK1 K1 hc hf s100
          generalize W100.setCell ⟨g100, 0, none⟩ (.slice (some ⟨g98, 0, none⟩) 286 286) = W101 at s101 ⊢
          refine wpAnyIn_ready (rs := [5]) (by kernel_rfl) (by simp) ?_
          refine AllReadyIn.cons rfl (fun K1 hK1 => ?_) (AllReadyIn.nil)
          have hc := (s101.2.2.2.2.1 _ _ rfl).2.cell
          have hf := (s101.2.2.2.2.1 _ _ rfl).2.frozen
          have s102 := s101.put5 (.slice (some ⟨g99, 0, none⟩) 30 30)
          go_simp
          refine hK1 _ _ ?_
          clear hK1 K1 hc hf s101
          generalize W101.setCell ⟨g97, 0, none⟩ (.slice (some ⟨g99, 0, none⟩) 30 30) = W102 at s102 ⊢
          refine wpAnyIn_done (by kernel_rfl) ?_ _
          exact hK _ _ _ _ _ s102
        · have s103 := s98.box4 (.slice none 0 0)
          go_simp
          refine hK1 _ _ ?_
          clear hK1 K1 s98
          generalize W98.alloc (.cells #[.slice none 0 0] 107) = W103 at s103 ⊢
          generalize W98.heap.size = g103 at s103 ⊢
          refine wpAnyIn_ready (rs := [1, 4]) (by kernel_rfl) (by simp) ?_
          refine AllReadyIn.cons rfl (fun K1 hK1 => ?_) (AllReadyIn.cons rfl (fun K1 hK1 => ?_) (AllReadyIn.nil))
          · refine step_make_in rfl _ _ 107 rfl w.heap.size 3 i0 (.int .i64 0) 1 Tryz.underlying107 hi hz0 hz1 .i64 .i64 30 30 30 rfl rfl rfl rfl (by rw [hz2]; omega) (by unfold maxLen; omega) s103.2.2.2.2.2.2.2 ?_
            intro g104 W104 hg104 ho hgr
            have s104 := s103.make11 hgr hg104 (made_ints ho)
            refine hK1 _ _ ?_
            clear hK1 K1 ho hgr hg104 s103
            refine wpAnyIn_ready (rs := [4]) (by kernel_rfl) (by simp) ?_
            refine AllReadyIn.cons rfl (fun K1 hK1 => ?_) (AllReadyIn.nil)
            have hc := (s104.2.2.2.1 _ _ rfl).2.cell
            have hf := (s104.2.2.2.1 _ _ rfl).2.frozen
            have s105 := s104.put4 (.slice (some ⟨g98, 0, none⟩) 286 286)
            go_simp
            refine hK1 _ _ ?_
            clear hK1 K1 hc hf s104
            generalize W104.setCell ⟨g103, 0, none⟩ (.slice (some ⟨g98, 0, none⟩) 286 286) = W105 at s105 ⊢
            refine wpAnyIn_ready (rs := [5]) (by kernel_rfl) (by simp) ?_
            refine AllReadyIn.cons rfl (fun K1 hK1 => ?_) (AllReadyIn.nil)
            have hc := (s105.2.2.2.2.1 _ _ rfl).2.cell
            have hf := (s105.2.2.2.2.1 _ _ rfl).2.frozen
            have s106 := s105.put5 (.slice (some ⟨g104, 0, none⟩) 30 30)
            go_simp
            refine hK1 _ _ ?_
            clear hK1 K1 hc hf s105
            generalize W105.setCell ⟨g97, 0, none⟩ (.slice (some ⟨g104, 0, none⟩) 30 30) = W106 at s106 ⊢
            refine wpAnyIn_done (by kernel_rfl) ?_ _
            exact hK _ _ _ _ _ s106
          · have hc := (s103.2.2.2.1 _ _ rfl).2.cell
            have hf := (s103.2.2.2.1 _ _ rfl).2.frozen
            have s107 := s103.put4 (.slice (some ⟨g98, 0, none⟩) 286 286)
            go_simp
            refine hK1 _ _ ?_
            clear hK1 K1 hc hf s103
            generalize W103.setCell ⟨g103, 0, none⟩ (.slice (some ⟨g98, 0, none⟩) 286 286) = W107 at s107 ⊢
            refine wpAnyIn_ready (rs := [1]) (by kernel_rfl) (by simp) ?_
            refine AllReadyIn.cons rfl (fun K1 hK1 => ?_) (AllReadyIn.nil)
            refine step_make_in rfl _ _ 107 rfl w.heap.size 3 i0 (.int .i64 0) 1 Tryz.underlying107 hi hz0 hz1 .i64 .i64 30 30 30 rfl rfl rfl rfl (by rw [hz2]; omega) (by unfold maxLen; omega) s107.2.2.2.2.2.2.2 ?_
            intro g108 W108 hg108 ho hgr
            have s108 := s107.make11 hgr hg108 (made_ints ho)
            refine hK1 _ _ ?_
            clear hK1 K1 ho hgr hg108 s107
            refine wpAnyIn_ready (rs := [5]) (by kernel_rfl) (by simp) ?_
            refine AllReadyIn.cons rfl (fun K1 hK1 => ?_) (AllReadyIn.nil)
            have hc := (s108.2.2.2.2.1 _ _ rfl).2.cell
            have hf := (s108.2.2.2.2.1 _ _ rfl).2.frozen
            have s109 := s108.put5 (.slice (some ⟨g108, 0, none⟩) 30 30)
            go_simp
            refine hK1 _ _ ?_
            clear hK1 K1 hc hf s108
            generalize W108.setCell ⟨g97, 0, none⟩ (.slice (some ⟨g108, 0, none⟩) 30 30) = W109 at s109 ⊢
            refine wpAnyIn_done (by kernel_rfl) ?_ _
            exact hK _ _ _ _ _ s109
      · refine step_make_in rfl _ _ 107 rfl w.heap.size 3 i0 (.int .i64 0) 1 Tryz.underlying107 hi hz0 hz1 .i64 .i64 30 30 30 rfl rfl rfl rfl (by rw [hz2]; omega) (by unfold maxLen; omega) s97.2.2.2.2.2.2.2 ?_
        intro g110 W110 hg110 ho hgr
        have s110 := s97.make11 hgr hg110 (made_ints ho)
        refine hK1 _ _ ?_
        clear hK1 K1 ho hgr hg110 s97
        refine wpAnyIn_ready (rs := [0, 2]) (by kernel_rfl) (by simp) ?_
        refine AllReadyIn.cons rfl (fun K1 hK1 => ?_) (AllReadyIn.cons rfl (fun K1 hK1 => ?_) (AllReadyIn.nil))
        · refine step_make_in rfl _ _ 107 rfl w.heap.size 3 i0 (.int .i64 0) 1 Tryz.underlying107 hi hz0 hz1 .i64 .i64 286 286 286 rfl rfl rfl rfl (by rw [hz2]; omega) (by unfold maxLen; omega) s110.2.2.2.2.2.2.2 ?_
          intro g111 W111 hg111 ho hgr
          have s111 := s110.make10 hgr hg111 (made_ints ho)
          refine hK1 _ _ ?_
          clear hK1 K1 ho hgr hg111 s110
          refine wpAnyIn_ready (rs := [2]) (by kernel_rfl) (by simp) ?_
          refine AllReadyIn.cons rfl (fun K1 hK1 => ?_) (AllReadyIn.nil)
          have s112 := s111.box4 (.slice none 0 0)
          go_simp
          refine hK1 _ _ ?_
          clear hK1 K1 s111
          generalize W111.alloc (.cells #[.slice none 0 0] 107) = W112 at s112 ⊢
          generalize W111.heap.size = g112 at s112 ⊢
          refine wpAnyIn_ready (rs := [4]) (by kernel_rfl) (by simp) ?_
          refine AllReadyIn.cons rfl (fun K1 hK1 => ?_) (AllReadyIn.nil)
          have hc := (s112.2.2.2.1 _ _ rfl).2.cell
          have hf := (s112.2.2.2.1 _ _ rfl).2.frozen
          have s113 := s112.put4 (.slice (some ⟨g111, 0, none⟩) 286 286)
          go_simp
          refine hK1 _ _ ?_
          clear hK1 K1 hc hf s112
          generalize W112.setCell ⟨g112, 0, none⟩ (.slice (some ⟨g111, 0, none⟩) 286 286) = W113 at s113 ⊢
          refine wpAnyIn_ready (rs := [5]) (by kernel_rfl) (by simp) ?_
          refine AllReadyIn.cons rfl (fun K1 hK1 => ?_) (AllReadyIn.nil)
          have hc := (s113.2.2.2.2.1 _ _ rfl).2.cell
          have hf := (s113.2.2.2.2.1 _ _ rfl).2.frozen
          have s114 := s113.put5 (.slice (some ⟨g110, 0, none⟩) 30 30)
          go_simp
          refine hK1 _ _ ?_
          clear hK1 K1 hc hf s113
          generalize W113.setCell ⟨g97, 0, none⟩ (.slice (some ⟨g110, 0, none⟩) 30 30) = W114 at s114 ⊢
          refine wpAnyIn_done (by kernel_rfl) ?_ _
          exact hK _ _ _ _ _ s114
        · have s115 := s110.box4 (.slice none 0 0)
          go_simp
          refine hK1 _ _ ?_
          clear hK1 K1 s110
          generalize W110.alloc (.cells #[.slice none 0 0] 107) = W115 at s115 ⊢
          generalize W110.heap.size = g115 at s115 ⊢
          refine wpAnyIn_ready (rs := [0]) (by kernel_rfl) (by simp) ?_
          refine AllReadyIn.cons rfl (fun K1 hK1 => ?_) (AllReadyIn.nil)
          refine step_make_in rfl _ _ 107 rfl w.heap.size 3 i0 (.int .i64 0) 1 Tryz.underlying107 hi hz0 hz1 .i64 .i64 286 286 286 rfl rfl rfl rfl (by rw [hz2]; omega) (by unfold maxLen; omega) s115.2.2.2.2.2.2.2 ?_
          intro g116 W116 hg116 ho hgr
          have s116 := s115.make10 hgr hg116 (made_ints ho)
          refine hK1 _ _ ?_
          clear hK1 K1 ho hgr hg116 s115
          refine wpAnyIn_ready (rs := [4]) (by kernel_rfl) (by simp) ?_
          refine AllReadyIn.cons rfl (fun K1 hK1 => ?_) (AllReadyIn.nil)
          have hc := (s116.2.2.2.1 _ _ rfl).2.cell
          have hf := (s116.2.2.2.1 _ _ rfl).2.frozen
          have s117 := s116.put4 (.slice (some ⟨g116, 0, none⟩) 286 286)
          go_simp
          refine hK1 _ _ ?_
          clear hK1 K1 hc hf s116
          generalize W116.setCell ⟨g115, 0, none⟩ (.slice (some ⟨g116, 0, none⟩) 286 286) = W117 at s117 ⊢
          refine wpAnyIn_ready (rs := [5]) (by kernel_rfl) (by simp) ?_
          refine AllReadyIn.cons rfl (fun K1 hK1 => ?_) (AllReadyIn.nil)
          have hc := (s117.2.2.2.2.1 _ _ rfl).2.cell
          have hf := (s117.2.2.2.2.1 _ _ rfl).2.frozen
          have s118 := s117.put5 (.slice (some ⟨g110, 0, none⟩) 30 30)
          go_simp
          refine hK1 _ _ ?_
          clear hK1 K1 hc hf s117
          generalize W117.setCell ⟨g97, 0, none⟩ (.slice (some ⟨g110, 0, none⟩) 30 30) = W118 at s118 ⊢
          refine wpAnyIn_done (by kernel_rfl) ?_ _
          exact hK _ _ _ _ _ s118
      · have s119 := s97.box4 (.slice none 0 0)
        go_simp
        refine hK1 _ _ ?_
        clear hK1 K1 s97
        generalize W97.alloc (.cells #[.slice none 0 0] 107) = W119 at s119 ⊢
        generalize W97.heap.size = g119 at s119 ⊢
        refine wpAnyIn_ready (rs := [0, 1]) (by kernel_rfl) (by simp) ?_
        refine AllReadyIn.cons rfl (fun K1 hK1 => ?_) (AllReadyIn.cons rfl (fun K1 hK1 => ?_) (AllReadyIn.nil))
        · refine step_make_in rfl _ _ 107 rfl w.heap.size 3 i0 (.int .i64 0) 1 Tryz.underlying107 hi hz0 hz1 .i64 .i64 286 286 286 rfl rfl rfl rfl (by rw [hz2]; omega) (by unfold maxLen; omega) s119.2.2.2.2.2.2.2 ?_
          intro g120 W120 hg120 ho hgr
          have s120 := s119.make10 hgr hg120 (made_ints ho)
          refine hK1 _ _ ?_
          clear hK1 K1 ho hgr hg120 s119
          refine wpAnyIn_ready (rs := [1, 4]) (by kernel_rfl) (by simp) ?_
          refine AllReadyIn.cons rfl (fun K1 hK1 => ?_) (AllReadyIn.cons rfl (fun K1 hK1 => ?_) (AllReadyIn.nil))
          · refine step_make_in rfl _ _ 107 rfl w.heap.size 3 i0 (.int .i64 0) 1 Tryz.underlying107 hi hz0 hz1 .i64 .i64 30 30 30 rfl rfl rfl rfl (by rw [hz2]; omega) (by unfold maxLen; omega) s120.2.2.2.2.2.2.2 ?_
            intro g121 W121 hg121 ho hgr
            have s121 := s120.make11 hgr hg121 (made_ints ho)
            refine hK1 _ _ ?_
            clear hK1 K1 ho hgr hg121 s120
            refine wpAnyIn_ready (rs := [4]) (by kernel_rfl) (by simp) ?_
            refine AllReadyIn.cons rfl (fun K1 hK1 => ?_) (AllReadyIn.nil)
            have hc := (s121.2.2.2.1 _ _ rfl).2.cell
            have hf := (s121.2.2.2.1 _ _ rfl).2.frozen
            have s122 := s121.put4 (.slice (some ⟨g120, 0, none⟩) 286 286)
            go_simp
            refine hK1 _ _ ?_
            clear hK1 K1 hc hf s121
            generalize W121.setCell ⟨g119, 0, none⟩ (.slice (some ⟨g120, 0, none⟩) 286 286) = W122 at s122 ⊢
            refine wpAnyIn_ready (rs := [5]) (by kernel_rfl) (by simp) ?_
            refine AllReadyIn.cons rfl (fun K1 hK1 => ?_) (AllReadyIn.nil)
            have hc := (s122.2.2.2.2.1 _ _ rfl).2.cell
            have hf := (s122.2.2.2.2.1 _ _ rfl).2.frozen
            have s123 := s122.put5 (.slice (some ⟨g121, 0, none⟩) 30 30)
            go_simp
            refine hK1 _ _ ?_
            clear hK1 K1 hc hf s122
            generalize W122.setCell ⟨g97, 0, none⟩ (.slice (some ⟨g121, 0, none⟩) 30 30) = W123 at s123 ⊢
            refine wpAnyIn_done (by kernel_rfl) ?_ _
            exact hK _ _ _ _ _ s123
          · have hc := (s120.2.2.2.1 _ _ rfl).2.cell
            have hf := (s120.2.2.2.1 _ _ rfl).2.frozen
            have s124 := s120.put4 (.slice (some ⟨g120, 0, none⟩) 286 286)
            go_simp
            refine hK1 _ _ ?_
            clear hK1 K1 hc hf s120
            generalize W120.setCell ⟨g119, 0, none⟩ (.slice (some ⟨g120, 0, none⟩) 286 286) = W124 at s124 ⊢
            refine wpAnyIn_ready (rs := [1]) (by kernel_rfl) (by simp) ?_
            refine AllReadyIn.cons rfl (fun K1 hK1 => ?_) (AllReadyIn.nil)
            refine step_make_in rfl _ _ 107 rfl w.heap.size 3 i0 (.int .i64 0) 1 Tryz.underlying107 hi hz0 hz1 .i64 .i64 30 30 30 rfl rfl rfl rfl (by rw [hz2]; omega) (by unfold maxLen; omega) s124.2.2.2.2.2.2.2 ?_
            intro g125 W125 hg125 ho hgr
            have s125 := s124.make11 hgr hg125 (made_ints ho)
            refine hK1 _ _ ?_
            clear hK1 K1 ho hgr hg125 s124
            refine wpAnyIn_ready (rs := [5]) (by kernel_rfl) (by simp) ?_
            refine AllReadyIn.cons rfl (fun K1 hK1 => ?_) (AllReadyIn.nil)
            have hc := (s125.2.2.2.2.1 _ _ rfl).2.cell
            have hf := (s125.2.2.2.2.1 _ _ rfl).2.frozen
            have s126 := s125.put5 (.slice (some ⟨g125, 0, none⟩) 30 30)
            go_simp
            refine hK1 _ _ ?_
            clear hK1 K1 hc hf s125
            generalize W125.setCell ⟨g97, 0, none⟩ (.slice (some ⟨g125, 0, none⟩) 30 30) = W126 at s126 ⊢
            refine wpAnyIn_done (by kernel_rfl) ?_ _
            exact hK _ _ _ _ _ s126
        · refine step_make_in rfl _ _ 107 rfl w.heap.size 3 i0 (.int .i64 0) 1 Tryz.underlying107 hi hz0 hz1 .i64 .i64 30 30 30 rfl rfl rfl rfl (by rw [hz2]; omega) (by unfold maxLen; omega) s119.2.2.2.2.2.2.2 ?_
          intro g127 W127 hg127 ho hgr
          have s127 := s119.make11 hgr hg127 (made_ints ho)
          refine hK1 _ _ ?_
          clear hK1 K1 ho hgr hg127 s119
          refine wpAnyIn_ready (rs := [0]) (by kernel_rfl) (by simp) ?_
          refine AllReadyIn.cons rfl (fun K1 hK1 => ?_) (AllReadyIn.nil)
          refine step_make_in rfl _ _ 107 rfl w.heap.size 3 i0 (.int .i64 0) 1 Tryz.underlying107 hi hz0 hz1 .i64 .i64 286 286 286 rfl rfl rfl rfl (by rw [hz2]; omega) (by unfold maxLen; omega) s127.2.2.2.2.2.2.2 ?_
          intro g128 W128 hg128 ho hgr
          have s128 := s127.make10 hgr hg128 (made_ints ho)
          refine hK1 _ _ ?_
          clear hK1 K1 ho hgr hg128 s127
          refine wpAnyIn_ready (rs := [4]) (by kernel_rfl) (by simp) ?_
          refine AllReadyIn.cons rfl (fun K1 hK1 => ?_) (AllReadyIn.nil)
          have hc := (s128.2.2.2.1 _ _ rfl).2.cell
          have hf := (s128.2.2.2.1 _ _ rfl).2.frozen
          have s129 := s128.put4 (.slice (some ⟨g128, 0, none⟩) 286 286)
          go_simp
          refine hK1 _ _ ?_
          clear hK1 K1 hc hf s128
          generalize W128.setCell ⟨g119, 0, none⟩ (.slice (some ⟨g128, 0, none⟩) 286 286) = W129 at s129 ⊢
          refine wpAnyIn_ready (rs := [5]) (by kernel_rfl) (by simp) ?_
          refine AllReadyIn.cons rfl (fun K1 hK1 => ?_) (AllReadyIn.nil)
          have hc := (s129.2.2.2.2.1 _ _ rfl).2.cell
          have hf := (s129.2.2.2.2.1 _ _ rfl).2.frozen
          have s130 := s129.put5 (.slice (some ⟨g127, 0, none⟩) 30 30)
          go_simp
          refine hK1 _ _ ?_
          clear hK1 K1 hc hf s129
          generalize W129.setCell ⟨g97, 0, none⟩ (.slice (some ⟨g127, 0, none⟩) 30 30) = W130 at s130 ⊢
          refine wpAnyIn_done (by kernel_rfl) ?_ _
          exact hK _ _ _ _ _ s130
  intro gl gd bl bd W hSt
  refine hKr _ _ ?_
  clear hKr
  have hl0 := hSt.2.1 gl rfl
  have hd0 := hSt.2.2.1 gd rfl
  obtain ⟨hb4, x40⟩ := hSt.2.2.2.1 bl _ rfl
  obtain ⟨hb5, x50⟩ := hSt.2.2.2.2.1 bd _ rfl
  have hgg : gl ≠ gd := hSt.2.2.2.2.2.1 gl gd rfl rfl
  have hbb : bl ≠ bd := hSt.2.2.2.2.2.2.1 bl _ bd _ rfl rfl
  have hBw := hSt.1
  have hnw := hSt.2.2.2.2.2.2.2
  clear hSt
  gi_wp2_with (refine ⟨trivial, ?_⟩; gi_at_call 99; refine (callsIn_wide.2 (lzTokens_any s _)).mono ?_; rintro e w' ⟨rfl, rfl⟩)
  have bN := Boxed.new W 9 (.string s)
  have hA : Below W.heap.size W (W.alloc (.cells #[.string s] 9)) := (Below.refl _ W).alloc (Nat.le_refl _) _
  have lb4 : bl < W.heap.size := x40.lt
  have lb5 : bd < W.heap.size := x50.lt
  refine wpIn_rangeFunc_ownG rfl (by omega) (gf := 134) (lb := #[.pointer (some ⟨W.heap.size, 0, none⟩)]) rfl trivial (enters_of Tryz.func134 (by kernel_rfl) rfl)
    (toksS_stops 5 (by omega) W.heap.size s (by omega) _ bN) keepB_t (fun W l o o' _ h1 h2 _ => keepB_b W l o o' h1 h2) (Below.refl _ _) (fun _ => rfl)
    (fun (pre : List (TkS s)) X => ((((IOwn X w.heap.size (.slice (some ⟨gl, 0, none⟩) 286 286) (litP pre) ∧ IOwn X w.heap.size (.slice (some ⟨gd, 0, none⟩) 30 30) (distP pre)) ∧ Boxed X bl 107 (.slice (some ⟨gl, 0, none⟩) 286 286)) ∧ Boxed X bd 107 (.slice (some ⟨gd, 0, none⟩) 30 30)) ∧ Below w.heap.size w X) ∧ Boxed X W.heap.size 9 (.string s))
    (fun _ _ _ => False)
    (OwnFrom.and (OwnFrom.and (OwnFrom.and (OwnFrom.and (OwnFrom.and (Own.from (iown_own _ _ litP) _) (Own.from (iown_own _ _ distP) _)) (Own.from (boxed_own _ _ _) _)) (Own.from (boxed_own _ _ _) _)) (ownFrom_below (Nat.le_refl _) (by simp; omega))) (Own.from (boxed_own _ _ _) _))
    (fun _ _ _ _ _ hs _ _ => hs)
    ⟨⟨⟨⟨⟨hl0.later hA (Nat.le_refl _), hd0.later hA (Nat.le_refl _)⟩, Boxed.later x40 hA⟩, Boxed.later x50 hA⟩, hBw.trans (hA.mono hnw)⟩, bN⟩
    (fun x => { tmps := #[.string s, undef, .slice none 0 0, .slice none 0 0, .pointer (some ⟨bl, 0, none⟩), .pointer (some ⟨bd, 0, none⟩), tokV x.1, undef, undef, undef, .slice (some ⟨gl, 0, none⟩) 286 286, .slice (some ⟨gd, 0, none⟩) 30 30, .string s, .func (.func 134) #[] #[.pointer (some ⟨W.heap.size, 0, none⟩)], tokV x.1, undef, undef, undef, undef, undef, undef, undef, undef, undef, undef, undef, undef, undef, undef, undef, undef, undef, undef, undef, undef, undef, undef, undef, undef, undef, undef, undef, undef, undef, undef, undef, undef, undef, undef, undef, undef, undef, undef, undef, undef, undef, undef, undef, undef], defers := [] }) ?assign ?body ?done ?stop
  case assign =>
    intro l x W K hK
    gi_wp2
    exact hK
  case body =>
    rintro l pre x X ⟨⟨⟨⟨⟨hl, hd⟩, x4⟩, x5⟩, hB⟩, hN⟩ hlt
    have hc4 := x4.cell
    have hc5 := x5.cell
    have hll := litP_len pre
    have hdl := distP_len pre
    have m1 := asByte_yes
    have m2 := asByte_no
    have m3 := asBack_yes
    cases hb : isB x.1
    · have hk : isK x.1 = true := by have := x.2.1; unfold okT at this; rw [hb] at this; simpa using this
      obtain ⟨q1, q2, q3, q4⟩ := isK_bd hk
      have f1 : x.1.2.1 = ((x.1.2.1.toNat : Nat) : Int) := by omega
      have f2 : x.1.2.2 = ((x.1.2.2.toNat : Nat) : Int) := by omega
      have e2 : tokV x.1 = .iface 174 (.agg #[.int .i64 ((x.1.2.1.toNat : Nat) : Int), .int .i64 ((x.1.2.2.toNat : Nat) : Int)]) := by rw [← f1, ← f2]; exact tokV_K hk
      have hx1 := litP_snocK pre x hb
      have hx2 := distP_snocK pre x hb
      have b1 := litP_bd pre (257 + fnd 3 4 x.1.2.1.toNat 27)
      have b2 := distP_bd pre (fnd 1 2 x.1.2.2.toNat 29)
      have HSp := hide (fun W => spot_any x.1.2.1.toNat x.1.2.2.toNat W (by omega) (by omega) (by omega) (by omega))
      have k1 := fnd_le 3 4 x.1.2.1.toNat 27
      have k2 := fnd_le 1 2 x.1.2.2.toNat 29
      rw [e2]
      generalize x.1.2.1.toNat = y at *
      generalize x.1.2.2.toNat = z at *
      generalize fnd 3 4 y 27 = p at *
      generalize fnd 1 2 z 29 = q at *
      have hc1 := hl.at hll (show 257 + p < 286 by omega)
      generalize hya : (litP pre).getD (257 + p) 0 = ya at *
      generalize hza : (distP pre).getD q 0 = za at *
      have hpI : (257 : Int) + (p : Int) < 286 := by omega
      have hqI : (q : Int) < 30 := by omega
      have hyI : ya ≤ 300 := by omega
      have hzI : za ≤ 300 := by omega
      have hy0 : 0 ≤ ya := by omega
      have hz0' : 0 ≤ za := by omega
      have hne4 := box_apart x4 hl
      have hne5 := box_apart x5 hl
      have hne6 := box_apart x4 hd
      have hne7 := box_apart x5 hd
      have HX : Hid (∀ Z, Below X.heap.size X Z → IOwn Z w.heap.size (.slice (some ⟨gl, 0, none⟩) 286 286) (litP pre) ∧ IOwn Z w.heap.size (.slice (some ⟨gd, 0, none⟩) 30 30) (distP pre) ∧ Boxed Z bl 107 (.slice (some ⟨gl, 0, none⟩) 286 286) ∧ Boxed Z bd 107 (.slice (some ⟨gd, 0, none⟩) 30 30) ∧ Boxed Z W.heap.size 9 (.string s)) := fun Z h => ⟨hl.later h (Nat.le_refl _), hd.later h (Nat.le_refl _), Boxed.later x4 h, Boxed.later x5 h, Boxed.later hN h⟩
      have hgl := hl.below.2
      have hgd := hd.below.2
      have HPQ := hide (And.intro (show 257 + p < 286 by omega) (show q < 30 by omega))
      have H1 := hide hx1
      have H2 := hide hx2
      have HYa := hide hya
      have HZa := hide hza
      have HB := hide hB
      have Hne := hide (And.intro hne4 (And.intro hne5 (And.intro hne6 hne7)))
      have hBX := hB.size
      have hNW := hN.lt
      clear hx1 hx2 hya hza b1 b2 k1 k2 q1 q2 q3 q4 f1 f2 e2 hc1 hl hd x4 x5 hN hlt hB
      gi_wp2_with (refine ⟨trivial, ?_⟩; gi_at_call 102; refine (CallsIn.inRound l (callsIn_wide.2 (unhide HSp _))).mono ?_; rintro e X1 ⟨rfl, hX1⟩; have hX1b : Below X.heap.size X X1 := bnext ((Below.refl _ X).alloc (Nat.le_refl _) _) hX1; have hs1 := hX1b.size; have hZ : Hid (∀ v, Below X.heap.size X (X1.alloc (.cells v 176))) := fun v => hX1b.alloc hs1 _; have z1 := fun v => (unhide HX _ (unhide hZ v)).2.2.1.cell; have z2 := fun v => (unhide HX _ (unhide hZ v)).2.2.2.1.cell; have z3 := fun v => ((unhide HX _ (unhide hZ v)).1.at (litP_len pre) (unhide HPQ).1).1; have z4 := fun v => ((unhide HX _ (unhide hZ v)).1.at (litP_len pre) (unhide HPQ).1).2.1; have z5 := fun v => ((unhide HX _ (unhide hZ v)).2.1.at (distP_len pre) (unhide HPQ).2).1; have z6 := fun v => ((unhide HX _ (unhide hZ v)).2.1.at (distP_len pre) (unhide HPQ).2).2.1; rw [unhide HYa] at z3; rw [unhide HZa] at z5; have n1 : ¬ X1.heap.size = gl := (by omega); have n2 : ¬ gl = X1.heap.size := (by omega); have n3 : ¬ gd = gl := (fun e => hgg e.symm); have HX1 := hide hX1b; clear hX1 hX1b)
      refine (fun Z (hZZ : Below X.heap.size X Z) => ?_ : ∀ Z, Below X.heap.size X Z → ownPostG _ _ _ _ _ _ _ _ ((Z.setCell ⟨gl, 257 + p, none⟩ (.int .i64 (ya + 1))).setCell ⟨gd, q, none⟩ (.int .i64 (za + 1)))) _ (unhide hZ _)
      obtain ⟨hl, hd, x4, x5, hN⟩ := unhide HX Z hZZ
      obtain ⟨e4, e5, e6, e7⟩ := unhide Hne
      have e8 := sbox_apart hN hl
      have e9 := sbox_apart hN hd
      have hl2 : IOwn ((Z.setCell ⟨gl, 257 + p, none⟩ (.int .i64 (ya + 1))).setCell ⟨gd, q, none⟩ (.int .i64 (za + 1))) w.heap.size (.slice (some ⟨gl, 0, none⟩) 286 286) (litP (pre ++ [x])) := by
        have := hl.put (j := 257 + p) (litP_len pre) (ya + 1)
        rw [unhide H1]
        unfold inc
        rw [unhide HYa]
        exact this.setOther hgg.symm _
      have hd2 : IOwn ((Z.setCell ⟨gl, 257 + p, none⟩ (.int .i64 (ya + 1))).setCell ⟨gd, q, none⟩ (.int .i64 (za + 1))) w.heap.size (.slice (some ⟨gd, 0, none⟩) 30 30) (distP (pre ++ [x])) := by
        have := (hd.setOther (g' := gl) (o := 257 + p) hgg (.int .i64 (ya + 1))).put (j := q) (distP_len pre) (za + 1)
        rw [unhide H2]
        unfold inc
        rw [unhide HZa]
        exact this
      exact ⟨(((KeepsOthers.of_grownBy (grown_none hZZ) (fun _ _ e => by cases e)).trans (KeepsOthers.setCell _ _ _)).trans (KeepsOthers.setCell _ _ _)).from _, fun _ => boxed_set (boxed_set hN e8 _) e9 _, ⟨⟨⟨⟨⟨hl2, hd2⟩, boxed_set (boxed_set x4 e4 _) e6 _⟩, boxed_set (boxed_set x5 e5 _) e7 _⟩, below_set (below_set ((unhide HB).trans (hZZ.mono hBX)) hl.below.1 _) hd.below.1 _⟩, boxed_set (boxed_set hN e8 _) e9 _⟩⟩
    · obtain ⟨q1, q2⟩ := isB_bd hb
      have f1 : x.1.1 = ((x.1.1.toNat : Nat) : Int) := by omega
      have e2 : tokV x.1 = .iface 172 (.int .u8 ((x.1.1.toNat : Nat) : Int)) := by rw [← f1]; exact tokV_B hb
      have hx1 := litP_snocB pre x hb
      have hx2 := distP_snocB pre x hb
      have b1 := litP_bd pre x.1.1.toNat
      rw [e2]
      generalize x.1.1.toNat = k at *
      have hc1 := hl.at hll (show k < 286 by omega)
      generalize hya : (litP pre).getD k 0 = ya at *
      have hkI : (k : Int) < 286 := by omega
      have hyI : ya ≤ 300 := by omega
      have hy0 : 0 ≤ ya := by omega
      have hPl : Hid (IOwn (X.setCell ⟨gl, k, none⟩ (.int .i64 (ya + 1))) w.heap.size (.slice (some ⟨gl, 0, none⟩) 286 286) (litP (pre ++ [x]))) := by
        have := hl.put (j := k) hll (ya + 1)
        rw [hx1]
        unfold inc
        rw [hya]
        exact this
      have hPd : Hid (IOwn (X.setCell ⟨gl, k, none⟩ (.int .i64 (ya + 1))) w.heap.size (.slice (some ⟨gd, 0, none⟩) 30 30) (distP (pre ++ [x]))) := by
        rw [hx2]; exact hd.setOther hgg _
      have hne4 := box_apart x4 hl
      have hne5 := box_apart x5 hl
      obtain ⟨c1, c2, c3, c4⟩ := hc1
      clear hx1 hx2 hya b1 hlt q1 q2 f1 e2
      gi_wp2
      exact ⟨(KeepsOthers.setCell _ _ _).from _, fun _ => boxed_set hN (sbox_apart hN hl) _, ⟨⟨⟨⟨⟨unhide hPl, unhide hPd⟩, boxed_set x4 hne4 _⟩, boxed_set x5 hne5 _⟩, below_set hB c3 _⟩, boxed_set hN (sbox_apart hN hl) _⟩⟩
  case done =>
    rintro D ys X hD hys ⟨⟨⟨⟨⟨hl, hd⟩, x4⟩, x5⟩, hB⟩, hN⟩ hK
    have hc4 := x4.cell
    have hc5 := x5.cell
    have hll := litP_len ys
    have hdl := distP_len ys
    have hfew := toks_few s hs hys
    have b1 := litP_bd ys 256
    have b2 := distP_bd ys 0
    have hL : litP ys = incs (List.replicate 286 0) ((toksP s.data.toList 0).map litS) := by unfold litP; rw [hys]
    have hDd : distP ys = distB (toksP s.data.toList 0) := by unfold distP distB; rw [hys]
    have hLC : inc (litP ys) 256 = litC (toksP s.data.toList 0) := by unfold litC; rw [hL]
    have hc1 := hl.at hll (show 256 < 286 by omega)
    have hne4 := box_apart x4 hl
    have hne5 := box_apart x5 hl
    have hne6 := box_apart x5 hd
    have hne7 := box_apart x4 hd
    have hD1 : D ≠ gl := fun e => by subst e; exact rec_apart hK hl rfl
    have hD2 : D ≠ gd := fun e => by subst e; exact rec_apart hK hd rfl
    have hDw : w.heap.size ≤ D := by simp at hD; omega
    have hzb : (distP ys).getD 0 0 ≤ 300 := by omega
    have hposD : ∀ i, i < (distP ys).length → 0 ≤ (distP ys).getD i 0 := fun i _ => (distP_bd ys i).1
    generalize hya : (litP ys).getD 256 0 = ya at *
    have hyI : ya ≤ 300 := by omega
    have hy0 : 0 ≤ ya := by omega
    have hPl : IOwn (X.setCell ⟨gl, 256, none⟩ (.int .i64 (ya + 1))) w.heap.size (.slice (some ⟨gl, 0, none⟩) 286 286) (litC (toksP s.data.toList 0)) := by
      have := hl.put (j := 256) hll (ya + 1)
      rw [← hLC]
      unfold inc
      rw [hya]
      exact this
    have hPd : IOwn (X.setCell ⟨gl, 256, none⟩ (.int .i64 (ya + 1))) w.heap.size (.slice (some ⟨gd, 0, none⟩) 30 30) (distP ys) := hd.setOther hgg _
    have hx5 := boxed_set (o := 256) x5 hne5 (.int .i64 (ya + 1))
    have hcx := hx5.cell
    have hKx : (X.setCell ⟨gl, 256, none⟩ (.int .i64 (ya + 1))).heap[D]? = some (.deferred (some [])) := (Below.heap_setCell _ _ _ D hD1).trans hK
    have hBx : Below w.heap.size w (X.setCell ⟨gl, 256, none⟩ (.int .i64 (ya + 1))) := below_set hB hl.below.1 _
    obtain ⟨c1, c2, c3, c4⟩ := hc1
    have HM := hide (maxInt_any (some ⟨gd, 0, none⟩) 30 30 (distP ys) (X.setCell ⟨gl, 256, none⟩ (.int .i64 (ya + 1))) hdl (hPd.rowN hdl) (by omega) (by omega) hposD)
    have HUs := hide (most_us (distP ys))
    rw [hdl] at HUs
    have HPl := hide hPl
    have HPd := hide hPd
    have HKx := hide hKx
    have HBx := hide hBx
    have hdz := hPd.at hdl (show 0 < 30 by omega)
    obtain ⟨d1, d2, d3, d4⟩ := hdz
    have Hdb := hide hDd
    have Hdl := hide hdl
    clear hl hd x4 x5 hN hB hK hys hL hLC b1 hPl hPd hKx hBx hx5 hDd hdl hposD hfew hll c3 c4
    by_cases hu : us (distP ys) = 0
    · have hm0 : Hid (mostL (distP ys) 30 = 0) := (unhide HUs).2 hu
      rw [unhide hm0] at HM
      generalize hza : (distP ys).getD 0 0 = za at *
      have hz0' : 0 ≤ za := b2.1
      gi_wp2_with (refine ⟨trivial, ?_⟩; gi_at_call 103; refine (callsIn_wide.2 (unhide HM)).mono ?_; rintro e x1 ⟨rfl, hx1⟩; rw [hx1]; clear hx1)
      gi_region
      gi_wp2
      refine ⟨by simp, .inl ⟨_, _, rfl, run_takeDeferred ((Below.heap_setCell _ _ _ D hD2).trans (unhide HKx)), ?_⟩⟩
      have hKy : ((X.setCell ⟨gl, 256, none⟩ (.int .i64 (ya + 1))).setCell ⟨gd, 0, none⟩ (.int .i64 (za + 1))).heap[D]? = some (.deferred (some [])) := (Below.heap_setCell _ _ _ D hD2).trans (unhide HKx)
      refine ⟨_, results_tmp2 rfl _ _ _, ⟨gl, gd, rfl, ?_, ?_⟩, ?_⟩
      · exact ownsRow_putObj (show IOwn _ _ _ _ from (unhide HPl).setOther hgg.symm _) (.deferred none) hKy rfl
      · have e1 : distC (toksP s.data.toList 0) = inc (distP ys) 0 := by
          unfold distC
          rw [← unhide Hdb, if_pos hu]
        rw [e1]
        refine ownsRow_putObj (show IOwn _ _ _ _ from ?_) (.deferred none) hKy rfl
        unfold inc
        rw [hza]
        exact (unhide HPd).put (j := 0) (unhide Hdl) (za + 1)
      · exact (below_set (unhide HBx) d3 _).drew.trans (belowK_b (w := w) (Nat.le_refl _) (World.drew _) D _ _ hDw hKy rfl rfl)
    · have hm0 : Hid (¬ mostL (distP ys) 30 = 0) := fun h => hu ((unhide HUs).1 h)
      have hmb : (mostL (distP ys) 30 == 0) = false := by have := unhide hm0; simpa using this
      generalize mostL (distP ys) 30 = M at *
      gi_wp2_with (refine ⟨trivial, ?_⟩; gi_at_call 103; refine (callsIn_wide.2 (unhide HM)).mono ?_; rintro e x1 ⟨rfl, hx1⟩; rw [hx1]; clear hx1)
      gi_region
      gi_wp2
      refine ⟨by simp, .inl ⟨_, _, rfl, run_takeDeferred (unhide HKx), ?_⟩⟩
      refine ⟨_, results_tmp2 rfl _ _ _, ⟨gl, gd, rfl, ?_, ?_⟩, ?_⟩
      · exact ownsRow_putObj (unhide HPl) (.deferred none) (unhide HKx) rfl
      · have e1 : distC (toksP s.data.toList 0) = distP ys := by
          unfold distC
          rw [← unhide Hdb, if_neg hu]
        rw [e1]
        exact ownsRow_putObj (unhide HPd) (.deferred none) (unhide HKx) rfl
      · exact (unhide HBx).drew.trans (belowK_b (w := w) (Nat.le_refl _) (World.drew _) D _ _ hDw (unhide HKx) rfl rfl)
  case stop =>
    rintro D c pre W _ _ h _
    exact h.elim
end Go.Proofs.YtgpghapnmalipaaGreatDoor
namespace Go.Proofs.YtgpghapnmalipaaGreatDoor
open Go.RowKit Corb
theorem inC_ok {l : List Int} (h : okC l) : inC l = true := by
  unfold inC
  rw [List.all_eq_true]
  intro x hx
  obtain ⟨i, hi, rfl⟩ := List.mem_iff_getElem.1 hx
  have := h i hi
  rw [show l.getD i 0 = l[i] by simp [List.getD, hi]] at this
  exact inB_true.2 this
theorem lens_fit {l : List Int} {m : Nat} (hc : okC l) (hl : l.length ≤ 300) (h1 : 1 ≤ us l) (hU : us l ≤ p2 m) (hm : m ≤ 14) : lensOfL l ((m : Int) + 1) = fitL ((m : Int) + 1) l := by
  unfold lensOfL
  rw [if_pos]
  unfold lofOk
  simp only [Bool.and_eq_true, decide_eq_true_eq]
  refine ⟨⟨⟨hl, inB_true.2 (by omega)⟩, inC_ok hc⟩, inB_true.2 ?_⟩
  rw [show ((m : Int) + 1).toNat = m + 1 by omega, p2_half]
  omega
theorem lit_fit (T : List Tk) (hT : T.length ≤ 300) : lensOfL (litC T) 15 = fitL 15 (litC T) := by
  have h1 := litC_us T
  have h2 := p2_14
  exact lens_fit (m := 14) (litC_ok T hT) (by rw [litC_len]; omega) h1.1 (by omega) (by omega)
theorem dist_fit (T : List Tk) (hT : T.length ≤ 300) : lensOfL (distC T) 15 = fitL 15 (distC T) := by
  have h1 := distC_us T
  have h2 := p2_14
  exact lens_fit (m := 14) (distC_ok T hT) (by rw [distC_len]; omega) h1.1 (by omega) (by omega)
theorem seven_fit (A : List Int) (h0 : 0 < A.length) (h4 : A.length ≤ 400) (hA : ∀ x ∈ A, 0 ≤ x ∧ x ≤ 15) : lensOfL (cnt7 A) 7 = lens7 A := by
  have h1 := cnt7_us A h0 hA
  have h2 := p2_6
  exact lens_fit (m := 6) (cnt7_ok A h4) (by rw [cnt7_len]; omega) h1.1 (by omega) (by omega)
theorem IOwn.cut {w : World} {base n m cap : Nat} {a : Option Addr} {l : List Int} (hn : l.length = n) (h : IOwn w base (.slice a n cap) l) (hm : m ≤ n) (h0 : 0 < n) : IOwn w base (.slice a m cap) (l.take m) := by
  subst hn
  rcases h.2 with ⟨_, e⟩ | ⟨g, cap', cur, e, hb, hg, h1, h2, h3, h4⟩
  · omega
  · simp only [Value.slice.injEq] at e
    obtain ⟨rfl, _, rfl⟩ := e
    refine ⟨by simp, .inr ⟨g, cap, cur, by rw [List.length_take]; congr 1; omega, hb, hg, by rw [List.length_take]; omega, h2, h3, ?_⟩⟩
    rw [List.length_take, List.map_take, ← h4, List.take_take]
    congr 1
    omega
theorem own_mono {w : World} {base base' size n : Nat} {e : TypeId} {v : Value} {xs : List Value} (h : w.ownsRow base e size v n xs) (hb : base' ≤ base) : w.ownsRow base' e size v n xs :=
  ⟨h.1, h.2.imp id fun ⟨g, c, u, e, hbg, r⟩ => ⟨g, c, u, e, Nat.le_trans hb hbg, r⟩⟩
theorem IOwn.cap {w : World} {base n cap g : Nat} {l : List Int} (h : IOwn w base (.slice (some ⟨g, 0, none⟩) n cap) l) : n ≤ cap ∧ cap ≤ maxLen := by
  rcases h.2 with ⟨e, _⟩ | ⟨g', cap', cur, e, hb, hg, h1, h2, h3, h4⟩
  · cases e
  · simp only [Value.slice.injEq] at e
    obtain ⟨_, rfl, rfl⟩ := e
    exact ⟨h1, h2⟩
def listB (L D : List Int) : List (Int × Int) := [((L.length : Int) - 257, 5), ((D.length : Int) - 1, 5), (15, 4)]
def ordP (l : List Int) (k : Nat) : List (Int × Int) := (ordL.take k).map fun i => (l.getD i 0, (3 : Int))
theorem ordP_succ (l : List Int) (k : Nat) (h : k < 19) : ordP l (k + 1) = ordP l k ++ [(l.getD (ordL.getD k 0) 0, 3)] := by
  unfold ordP
  have hk : k < ordL.length := h
  rw [List.take_succ_eq_append_getElem hk, List.map_append]
  simp [List.getD, hk]
theorem ordP_len (l : List Int) (k : Nat) (h : k ≤ 19) : (ordP l k).length = k := by unfold ordP; have : ordL.length = 19 := rfl; simp; omega
theorem toldP_same (L D : List Int) (h : lensOk (lens7 (L ++ D)) = true) (h19 : (lens7 (L ++ D)).length = 19) (hA : ∀ x ∈ L ++ D, 0 ≤ x ∧ x ≤ 15) : listB L D ++ ordP (lens7 (L ++ D)) 19 ++ lensS (lens7 (L ++ D)) (L ++ D) = toldP L D := by
  unfold toldP listB ordP lensS
  rw [List.append_assoc]
  congr 2
  apply List.map_congr_left
  intro x hx
  have := hA x hx
  exact pcS_pcM h (by rw [h19]; omega)
theorem book_cell {w : World} {b base : Nat} {l : List Int} {C : Array Value} (h : BookB w b base l C) : ∃ a cap, w.cell? ⟨b, 0, none⟩ = some (.slice a l.length cap) ∧ IRow w a l := by
  obtain ⟨⟨a, cap, ac, cc, q, sc, e, h1, h2, h3⟩, hr, _⟩ := h
  refine ⟨a, cap, ?_, h1.1⟩
  have := hr 0 (.slice a l.length cap) (by rw [e]; rfl)
  simpa using this
def bookZ5 : Array Value := #[Value.slice none 0 0, Value.slice none 0 0, Value.int .i64 0, Value.int .i64 0, Value.int .i64 0, Value.int .i64 0, Value.int .i64 0, Value.int .i64 0, Value.int .i64 0, Value.int .i64 0, Value.int .i64 0, Value.int .i64 0, Value.int .i64 0, Value.int .i64 0, Value.int .i64 0, Value.int .i64 0, Value.int .i64 0, Value.int .i64 0, Value.slice none 0 0]
theorem concat_two (gL gD nL cL nD cD base : Nat) (L D : List Int) (w : World) (hnL : L.length = nL) (hnD : D.length = nD) (hL : IOwn w base (.slice (some ⟨gL, 0, none⟩) nL cL) L) (hD : IOwn w base (.slice (some ⟨gD, 0, none⟩) nD cD) D) (hl : nL + nD ≤ 1000) :
    Calls Tryz.prog 97 #[.slice (some ⟨w.heap.size, 0, none⟩) 2 2] (w.alloc (.cells #[.slice (some ⟨gL, 0, none⟩) nL cL, .slice (some ⟨gD, 0, none⟩) nD cD] 107)) fun e w' => ∃ v, e = .returned v ∧ IOwn w' w.heap.size v (L ++ D) ∧ Below w.heap.size w w' := by
  have hb5 : Below w.heap.size w (w.alloc (.cells #[.slice (some ⟨gL, 0, none⟩) nL cL, .slice (some ⟨gD, 0, none⟩) nD cD] 107)) := (Below.refl _ _).alloc (Nat.le_refl _) _
  have hR : RowsInt (w.alloc (.cells #[.slice (some ⟨gL, 0, none⟩) nL cL, .slice (some ⟨gD, 0, none⟩) nD cD] 107)) w.heap.size base [(.slice (some ⟨gL, 0, none⟩) nL cL, L.map (Value.int .i64)), (.slice (some ⟨gD, 0, none⟩) nD cD, D.map (Value.int .i64))] := by
    intro i hi
    match i, hi with
    | 0, _ => exact ⟨by simp, _, hL.later hb5 (Nat.le_refl _), ints_oneCell .i64 _⟩
    | 1, _ => exact ⟨by simp, _, hD.later hb5 (Nat.le_refl _), ints_oneCell .i64 _⟩
  have hlen : rowsLenInt [(Value.slice (some ⟨gL, 0, none⟩) nL cL, L.map (Value.int .i64)), (.slice (some ⟨gD, 0, none⟩) nD cD, D.map (Value.int .i64))] = (L ++ D).length := by simp [rowsLenInt, rowLenInt]
  refine (concatInt w.heap.size base 2 2 _ _ rfl (by omega) (by omega) hR (by rw [hlen, List.length_append]; omega)).mono ?_
  rintro e x5 ⟨v, rfl, ho5, hb⟩
  refine ⟨v, rfl, ?_, bnext hb5 hb⟩
  have hall : rowsAllInt [(Value.slice (some ⟨gL, 0, none⟩) nL cL, L.map (Value.int .i64)), (.slice (some ⟨gD, 0, none⟩) nD cD, D.map (Value.int .i64))] = (L ++ D).map (Value.int .i64) := by
    simp only [rowsAllInt, List.flatMap_cons, List.flatMap_nil, List.map_append, List.append_nil]
  rw [hlen, hall] at ho5
  exact IOwn.mono (base := (w.alloc (.cells #[.slice (some ⟨gL, 0, none⟩) nL cL, .slice (some ⟨gD, 0, none⟩) nD cD] 107)).heap.size) ho5 (by simp)
set_option maxRecDepth 100000 in
set_option maxHeartbeats 6400000 in
theorem lensTold_any (gL gD nL cL nD cD base : Nat) (L D : List Int) (w : World) (hnL : L.length = nL) (hnD : D.length = nD) (hL : IOwn w base (.slice (some ⟨gL, 0, none⟩) nL cL) L) (hD : IOwn w base (.slice (some ⟨gD, 0, none⟩) nD cD) D)
    (l0 : 257 ≤ nL) (l1 : nL ≤ 286) (d0 : 1 ≤ nD) (d1 : nD ≤ 30) (kL : lensOk L = true) (kD : lensOk D = true) (hO : OrdC w) :
    Calls Tryz.prog 80 #[.slice (some ⟨gL, 0, none⟩) nL cL, .slice (some ⟨gD, 0, none⟩) nD cD] w fun e w' => ∃ v, e = .returned v ∧ Pcs w' w.heap.size v (toldP L D) ∧ Below w.heap.size w w' := by
  obtain ⟨i0, hi, hz0, hz1, hz2⟩ := info_parts Tryz.infoInt
  obtain ⟨j0, hj, hy0, hy1, hy2⟩ := info_parts Tryz.infoPiece
  have HA : Hid (∀ x ∈ L ++ D, 0 ≤ x ∧ x ≤ 15) := by
    intro x hx
    rcases List.mem_append.1 hx with h | h
    · exact lens_bd kL x h
    · exact lens_bd kD x h
  obtain ⟨nA, hnA⟩ : ∃ nA, (L ++ D).length = nA := ⟨_, rfl⟩
  have hnA' : nA = nL + nD := by rw [← hnA, List.length_append, hnL, hnD]
  have HF := hide (lens7F (L ++ D) (by omega) (by omega) (unhide HA))
  have HS := hide (seven_fit (L ++ D) (by omega) (by omega) (unhide HA))
  have HT := hide (toldP_same L D (unhide HF).2.1 (unhide HF).1 (unhide HA))
  have HCat := hide (concat_two gL gD nL cL nD cD base L D w hnL hnD hL hD (by omega))
  have HB : Hid (listB L D = [((nL : Int) - 257, 5), ((nD : Int) - 1, 5), (15, 4)]) := by show listB L D = _; unfold listB; rw [hnL, hnD]
  have nLI : (nL : Int) ≤ 286 := by omega
  have nDI : (nD : Int) ≤ 30 := by omega
  have nLI0 : (257 : Int) ≤ (nL : Int) := by omega
  have nDI0 : (1 : Int) ≤ (nD : Int) := by omega
  have nAI : (nA : Int) ≤ 316 := by omega
  have HNA : Hid (1 ≤ nA ∧ nA ≤ 316) := by show _ ∧ _; omega
  have HO := hide hO
  clear hL hD kL kD l0 l1 d0 d1 hnL hnD hnA' hO
  generalize hAe : L ++ D = A at *
  have HAn := hide hnA
  clear hnA hAe
  go_enter Tryz.func80, Tryz.ntmps80
  go_wp2_with fail
  refine (unhide HCat).mono ?_
  rintro e x1 ⟨v1, rfl, o1, b1⟩
  obtain ⟨a1, c1, rfl⟩ := o1.formN (unhide HAn)
  obtain ⟨g1, rfl⟩ := o1.somes (by have := unhide HAn; have := unhide HNA; omega)
  have O1 := hide o1
  have B1 := hide b1
  clear o1 b1 HCat
  go_wp2_with (at_make; refine wpList_make_full _ rfl _ _ 107 rfl w.heap.size 3 i0 (.int .i64 0) 1 Tryz.underlying107 hi hz0 hz1 .i64 .i64 _ _ 19 rfl rfl rfl rfl (by rw [hz2]; omega) (by unfold maxLen; omega) (unhide B1).size ?_; intro x2 hown hgrow)
  have hg1 := (unhide O1).below.2
  obtain ⟨gC, hgC⟩ : ∃ gC, x1.heap.size = gC := ⟨_, rfl⟩
  have b2 := grown_below hgrow
  have o2 := made_ints hown
  rw [hgC] at hown o2 hg1
  have hb2 := bnext (unhide B1) b2
  have o1 := (unhide O1).later b2 (Nat.le_refl _)
  have hne : gC ≠ g1 := by omega
  rw [hgC]
  have HgC := hide hgC
  clear hown hgrow b2 O1 B1 hgC hg1
  go_loopw [8, 20] (fun _ i wr => ∃ k : Nat, k ≤ nA ∧ i = .int .i64 k ∧ IOwn wr w.heap.size (.slice (some ⟨g1, 0, none⟩) nA c1) A ∧ IOwn wr w.heap.size (.slice (some ⟨gC, 0, none⟩) 19 19) (incs (List.replicate 19 0) ((A.take k).map Int.toNat)) ∧ Below w.heap.size w wr) (fun _ i _ => nA - (intOf i).toNat)
  case atStart => exact ⟨0, Nat.zero_le _, rfl, o1, o2, hb2⟩
  case round =>
    obtain ⟨k, hk, rfl, hA1, hC1, hbel⟩ := hrel
    clear o1 o2 hb2
    by_cases hlt : k < nA
    · obtain ⟨c0, _, _, _⟩ := hA1.at (unhide HAn) hlt
      have hin : A.getD k 0 ∈ A := by have := unhide HAn; simp [List.getD, show k < A.length by omega]
      have hyb := unhide HA _ hin
      have hst : Hid ((A.take (k + 1)).map Int.toNat = (A.take k).map Int.toNat ++ [(A.getD k 0).toNat]) := by
        show _ = _
        rw [take_snocI A k (by rw [unhide HAn]; exact hlt), List.map_append]; rfl
      have hln : (incs (List.replicate 19 0) ((A.take k).map Int.toNat)).length = 19 := by rw [incs_len, List.length_replicate]
      obtain ⟨y, hy⟩ := Int.eq_ofNat_of_zero_le hyb.1
      rw [hy] at hst c0 hyb
      rw [Int.toNat_natCast] at hst
      have hb := incs_bd 19 ((A.take k).map Int.toNat) y
      have hlk : ((A.take k).map Int.toNat).length ≤ nA := by simp; omega
      obtain ⟨d0, d1, d2, d3⟩ := hC1.at (j := y) hln (by omega)
      have hP := hC1.put (j := y) hln ((incs (List.replicate 19 0) ((A.take k).map Int.toNat)).getD y 0 + 1)
      have hP2 : Hid (∀ u, IOwn (wr.setCell ⟨gC, y, none⟩ u) w.heap.size (.slice (some ⟨g1, 0, none⟩) nA c1) A ∧ Below w.heap.size w (wr.setCell ⟨gC, y, none⟩ u)) := fun u => ⟨hA1.setOther hne u, below_set hbel d2 u⟩
      have HP : Hid (IOwn (wr.setCell ⟨gC, y, none⟩ (.int .i64 ((incs (List.replicate 19 0) ((A.take k).map Int.toNat)).getD y 0 + 1))) w.heap.size (.slice (some ⟨gC, 0, none⟩) 19 19) (incs (List.replicate 19 0) ((A.take (k + 1)).map Int.toNat))) := by
        show IOwn _ _ _ _
        rw [unhide hst, incs_snoc]
        exact hP
      generalize (incs (List.replicate 19 0) ((A.take k).map Int.toNat)).getD y 0 = z at *
      have hyI : (y : Int) < 19 := by omega
      have hzI : z ≤ 400 := by have := unhide HNA; omega
      have hz0' : 0 ≤ z := hb.1
      have Hk := hide hk
      clear hP hC1 hA1 hbel hlk hb hyb hy hin hk hln d2 d3
      go_wp2
      go_roundw
      case rel => exact ⟨k + 1, by have := unhide Hk; omega, by go_num, (unhide hP2 _).1, unhide HP, (unhide hP2 _).2⟩
      case measure => simp [intOf]; omega
    · have hkn : A.take k = A := List.take_of_length_le (by rw [unhide HAn]; omega)
      rw [hkn] at hC1
      have hC2 : IOwn wr w.heap.size (.slice (some ⟨gC, 0, none⟩) 19 19) (cnt7 A) := hC1
      have HL := hide (implLensOf_any (some ⟨gC, 0, none⟩) 19 19 (cnt7 A) 7 wr (cnt7_len A) (hC2.rowN (cnt7_len A)) (by omega))
      rw [unhide HS] at HL
      have O1 := hide hA1
      have B1 := hide hbel
      clear hkn hC1 hC2 hA1 hbel
      go_wp2_with fail
      refine (unhide HL).mono ?_
      rintro e x3 ⟨⟨v3, rfl, o3⟩, b3⟩
      obtain ⟨a3, c3, rfl⟩ := o3.formN (unhide HF).1
      have O1' := hide ((unhide O1).later b3 (Nat.le_refl _))
      have B3 := hide (bnext (unhide B1) b3)
      have HBk := hide (lenBook_any a3 c3 19 w.heap.size (lens7 A) x3 (unhide HF).1 ((own_jrow (unhide HF).1 (o3.own (unhide HF).1)).mono (unhide B1).size) (unhide B3).size (by omega))
      clear o3 b3 HL O1 B1
      go_wp2_with fail
      refine (unhide HBk).mono ?_
      rintro e x4 ⟨⟨C, rfl, k4⟩, b4⟩
      have O1 := hide ((unhide O1').later b4 (Nat.le_refl _))
      have B4 := hide (bnext (unhide B3) b4)
      have K4 := hide k4
      have HSz := hide k4.size
      have HOne := hide k4.one
      clear k4 b4 HBk O1' B3
      have b5 : Below x4.heap.size x4 ((x4.alloc (.cells bookZ5 186)).setCells x4.heap.size 0 C.toList) := below_setCells (Nat.le_refl _) _ _ _ ((Below.refl _ _).alloc (Nat.le_refl _) _)
      have hth : (x4.alloc (.cells bookZ5 186)).there x4.heap.size 0 19 := there_new x4 bookZ5 _ 19 rfl
      have hr5 := World.rangeAt_setCells_same (x4.alloc (.cells bookZ5 186)) x4.heap.size 0 C.toList (by rw [Array.length_toList, unhide HSz]; exact hth)
      have hbk : BookB ((x4.alloc (.cells bookZ5 186)).setCells x4.heap.size 0 C.toList) x4.heap.size w.heap.size (lens7 A) C := ⟨(unhide K4).later b5, hr5, by rw [size_setCells]; simp⟩
      have HTh := hide hth
      have HB5 := hide b5
      have HBB := hide hbk
      unfold bookZ5 at HTh HB5 HBB
      clear b5 hth hr5 hbk K4
      go_wp2_with (first
        | (refine wpList_store_mid rfl 186 (.tmp 9) (.tmp 33) rfl x4.heap.size 0 C rfl rfl (by rw [unhide HSz]; exact unhide HTh) (by rw [unhide HSz]; exact Tryz.infoLenK) (unhide HOne) ?_; generalize hx5 : World.setCells _ x4.heap.size 0 C.toList = x5 at *; clear hx5 HTh)
        | (refine wpList_load_half rfl 189 (.global 1) rfl 1 0 rfl ordC _ (OrdC.later (OrdC.later (OrdC.later (unhide HO) (unhide B4)) (unhide HB5)) ((Below.refl _ _).alloc (Nat.le_refl _) _)).1 Tryz.underlying189 rfl Tryz.infoOrd ?_))
      have hp0 : Pcs (x5.alloc (.cells #[.int .i64 ((nL : Int) - 256 - 1), .int .i64 5, .int .i64 ((nD : Int) - 1), .int .i64 5, .int .i64 15, .int .i64 4] 112)) x5.heap.size (.slice (some ⟨x5.heap.size, 0, none⟩) 3 3) (listB L D ++ ordP (lens7 A) 0) := by
        have e0 : listB L D ++ ordP (lens7 A) 0 = [((nL : Int) - 256 - 1, 5), ((nD : Int) - 1, 5), (15, 4)] := by rw [unhide HB]; simp only [ordP, List.take_zero, List.map_nil, List.append_nil]; congr 2; omega
        rw [e0]
        exact World.ownsRow_lit x5 #[.int .i64 ((nL : Int) - 256 - 1), .int .i64 5, .int .i64 ((nD : Int) - 1), .int .i64 5, .int .i64 15, .int .i64 4] 3 (Nat.le_refl _) (by unfold maxLen; omega) rfl
      have hA6 : Below x5.heap.size x5 (x5.alloc (.cells #[.int .i64 ((nL : Int) - 256 - 1), .int .i64 5, .int .i64 ((nD : Int) - 1), .int .i64 5, .int .i64 15, .int .i64 4] 112)) := (Below.refl _ _).alloc (Nat.le_refl _) _
      have O5 := hide ((unhide O1).later (unhide HB5) (Nat.le_refl _))
      have B5 := hide (bnext (unhide B4) (unhide HB5))
      generalize x5.alloc (.cells #[.int .i64 ((nL : Int) - 256 - 1), .int .i64 5, .int .i64 ((nD : Int) - 1), .int .i64 5, .int .i64 15, .int .i64 4] 112) = x6 at *
      generalize x4.heap.size = b9 at *
      clear HB5 B4 O1
      go_loopw [10, 12, 46] (fun o _ i wr => ∃ j : Nat, j ≤ 19 ∧ i = .int .i64 j ∧ Pcs wr x5.heap.size o (listB L D ++ ordP (lens7 A) j) ∧ Below x5.heap.size x5 wr) (fun _ _ i _ => 19 - (intOf i).toNat)
      case atStart => exact ⟨0, by omega, rfl, hp0, hA6⟩
      case round =>
        obtain ⟨j, hj19, rfl, hp, hbel⟩ := hrel
        clear hp0 hA6 x6
        have hbk := (unhide HBB).later hbel
        have hlk : Hid ((listB L D ++ ordP (lens7 A) j).length = 3 + j) := by show _ = _; rw [List.length_append, ordP_len _ _ hj19]; rfl
        have hbs := hbel.size
        by_cases hlt : j < 19
        · have hix := ord_index j hlt
          have hol := ord_lt j hlt
          have hst : Hid (listB L D ++ ordP (lens7 A) (j + 1) = (listB L D ++ ordP (lens7 A) j) ++ [((lens7 A).getD (ordL.getD j 0) 0, 3)]) := by show _ = _; rw [ordP_succ (lens7 A) j hlt, List.append_assoc]
          obtain ⟨a7, cap7, hcb, hI7⟩ := book_cell hbk
          rw [(unhide HF).1] at hcb
          obtain ⟨g7, o7, rfl, hg7, hc7⟩ := hI7 (by rw [(unhide HF).1]; omega)
          have d7 := hc7 (ordL.getD j 0) (by rw [(unhide HF).1]; exact hol)
          have hyb := (unhide HF).2.2 (ordL.getD j 0) hol
          generalize (lens7 A).getD (ordL.getD j 0) 0 = y at *
          generalize ordL.getD j 0 = q at *
          have hqI : (q : Int) < 19 := by omega
          have hyI : y ≤ 7 := hyb.2.1
          have hjI : (j : Int) < 19 := by omega
          have hlen1 : Hid ((listB L D ++ ordP (lens7 A) j).length + 1 ≤ maxLen ∧ ((listB L D ++ ordP (lens7 A) j).length + 1) * 16 ≤ 140737488355328) := by
            show _ ∧ _
            rw [unhide hlk]
            unfold maxLen
            omega
          have Hj := hide hlt
          clear hbk hc7 hol hI7 hyb hj19 hlt
          go_wp2_with (at_builtin; refine wpList_append_own _ rfl _ _ 109 rfl x5.heap.size 112 j0 (.agg #[.int .i64 0, .int .i64 0]) 2 16 Tryz.underlying109 hj hy0 hy1 hy2 rfl (by decide) _ _ _ rfl (World.ownsRow.alloc hp _) ⟨wr.heap.size, 0, none⟩ 1 1 [.int .i64 y, .int .i64 3] rfl rfl (two_new wr _ _ _) (two_int _ _) (unhide hlen1).1 (unhide hlen1).2 (size_alloc_le hbs _) ?_; intro v' x2 hown hgrow hnil; clear hnil)
          have hb2 := grown_step (v := u10) hgrow hp (Nat.le_refl _) hbs hbel
          have hq2 := pcs_snoc hown
          rw [← unhide hst] at hq2
          exact ⟨⟨j + 1, by have := unhide Hj; omega, by go_num, hq2, hb2⟩, by have := unhide Hj; simp [intOf]; omega⟩
        · obtain rfl : j = 19 := by omega
          have HEach := hide (eachL_any (some ⟨g1, 0, none⟩) c1 nA b9 w.heap.size A (lens7 A) C wr (unhide HAn) (((unhide O5).later hbel (Nat.le_refl _)).rowN (unhide HAn)) (by have := unhide HNA; omega) hbk (by rw [(unhide HF).1]; omega) (fun i hi => by rw [(unhide HF).1]; have := unhide HA (A.getD i 0) (by simp [List.getD, hi]); omega))
          have hmf : ∀ (fn : Fn) (first cap : Array Value) (w : World), (Instr.makeFunc fn first cap).run Tryz.prog w = .ok (.func fn first cap) w := fun _ _ _ _ => rfl
          obtain ⟨ga, ca, rfl⟩ : ∃ ga ca, u10 = .slice (some ⟨ga, 0, none⟩) 22 ca := by
            obtain ⟨g, c, e⟩ := own_some hp (by rw [unhide hlk]; omega)
            rw [unhide hlk] at e
            exact ⟨g, c, e⟩
          have HP := hide hp
          have HBel := hide hbel
          clear hp hbel hbk hlt hj19
          go_wp2_with fail
          refine (unhide HEach).mono ?_
          rintro e x7 ⟨v7, rfl, hp7, b7⟩
          have hl7 : Hid ((lensS (lens7 A) A).length = nA) := by show _ = _; unfold lensS; rw [List.length_map]; exact unhide HAn
          obtain ⟨ga7, ca7, rfl⟩ : ∃ ga ca, v7 = .slice (some ⟨ga, 0, none⟩) nA ca := by
            obtain ⟨g, c, e⟩ := own_some hp7 (by rw [unhide hl7]; have := unhide HNA; omega)
            rw [unhide hl7] at e
            exact ⟨g, c, e⟩
          have HN7 := hide (hp7.newsN (unhide hl7))
          have HP8 := hide (row_later (unhide HP) b7)
          have hbs7 : x5.heap.size ≤ x7.heap.size := Nat.le_trans (unhide HBel).size b7.size
          have HB7 := hide (bnext (unhide HBel) b7)
          have bd : Hid ((listB L D ++ ordP (lens7 A) 19).length + nA ≤ maxLen ∧ ((listB L D ++ ordP (lens7 A) 19).length + nA) * 16 ≤ 140737488355328) := by
            show _ ∧ _
            rw [unhide hlk]
            have := unhide HNA
            unfold maxLen
            omega
          clear hp7 b7 HEach
          go_wp2_with (at_builtin; refine wpList_append_own _ rfl _ _ 109 rfl x5.heap.size 112 j0 (.agg #[.int .i64 0, .int .i64 0]) 2 16 Tryz.underlying109 hj hy0 hy1 hy2 rfl (by decide) _ _ _ rfl (unhide HP8) ⟨ga7, 0, none⟩ nA ca7 (pcells (lensS (lens7 A) A)) rfl (by rw [pcells_len, unhide hl7]) (unhide HN7) (pcells_one _) (unhide bd).1 (unhide bd).2 hbs7 ?_; intro v' x8 hown hgrow hnil; clear hnil)
          go_ret
          have hb8 : Below x5.heap.size x5 x8 := (unhide HB7).grown hgrow hbs7 (fun j hj => (World.ownsRow.lt (unhide HP8) j hj).1)
          refine ⟨_, rfl, ?_, bnext (unhide B5) hb8⟩
          rw [← unhide HT]
          have h9 : Pcs x8 x5.heap.size v' ((listB L D ++ ordP (lens7 A) 19) ++ lensS (lens7 A) A) := by
            show World.ownsRow _ _ _ _ _ _ _
            rw [pcells_append, List.length_append, unhide hl7]
            exact hown
          exact own_mono h9 (unhide B5).size
end Go.Proofs.YtgpghapnmalipaaGreatDoor
namespace Go.Proofs.YtgpghapnmalipaaGreatDoor
open Go.RowKit Corb
def litM (T : List Tk) (k : Nat) : List Int := incs (inc (List.replicate 286 0) 256) ((T.take k).map litS)
def distM (T : List Tk) (k : Nat) : List Int := incs (List.replicate 30 0) ((T.take k).flatMap distS)
theorem litM_len (T : List Tk) (k : Nat) : (litM T k).length = 286 := by unfold litM; rw [incs_len, inc_len, List.length_replicate]
theorem distM_len (T : List Tk) (k : Nat) : (distM T k).length = 30 := by unfold distM; rw [incs_len, List.length_replicate]
theorem takeK_snoc (T : List Tk) (k : Nat) (h : k < T.length) : T.take (k + 1) = T.take k ++ [T.getD k k0] := by
  rw [List.take_succ_eq_append_getElem h]
  congr 1
  simp [List.getD, h]
theorem litM_succ (T : List Tk) (k : Nat) (h : k < T.length) : litM T (k + 1) = inc (litM T k) (litS (T.getD k k0)) := by
  unfold litM
  rw [takeK_snoc T k h, List.map_append, List.map_singleton, incs_snoc]
theorem litM_zero (T : List Tk) : litM T 0 = (List.replicate 286 (0 : Int)).set 256 1 := by
  unfold litM inc
  rw [List.take_zero, zeros_get]; rfl
theorem distM_B (T : List Tk) (k : Nat) (h : k < T.length) (hb : isB (T.getD k k0) = true) : distM T (k + 1) = distM T k := by
  unfold distM
  rw [takeK_snoc T k h, List.flatMap_append]
  have : [T.getD k k0].flatMap distS = [] := by simp only [List.flatMap_cons, List.flatMap_nil, List.append_nil]; unfold distS; rw [if_pos hb]
  rw [this, List.append_nil]
theorem distM_K (T : List Tk) (k : Nat) (h : k < T.length) (hb : isB (T.getD k k0) = false) : distM T (k + 1) = inc (distM T k) (fnd 1 2 (T.getD k k0).2.2.toNat 29) := by
  unfold distM
  rw [takeK_snoc T k h, List.flatMap_append]
  have : [T.getD k k0].flatMap distS = [fnd 1 2 (T.getD k k0).2.2.toNat 29] := by simp only [List.flatMap_cons, List.flatMap_nil, List.append_nil]; unfold distS; rw [if_neg (by rw [hb]; exact Bool.false_ne_true)]
  rw [this, incs_snoc]
theorem litM_bd (T : List Tk) (k j : Nat) (hk : k ≤ 300) : 0 ≤ (litM T k).getD j 0 ∧ (litM T k).getD j 0 ≤ 301 := by
  unfold litM
  rw [incs_get, inc_get, zeros_get]
  have : ((T.take k).map litS).count j ≤ ((T.take k).map litS).length := List.count_le_length
  rw [List.length_map, List.length_take] at this
  split <;> split <;> omega
theorem distM_bd (T : List Tk) (k j : Nat) (hk : k ≤ 300) : 0 ≤ (distM T k).getD j 0 ∧ (distM T k).getD j 0 ≤ 300 := by
  have h1 := incs_bd 30 ((T.take k).flatMap distS) j
  have h2 := flat_len (T.take k)
  rw [List.length_take] at h2
  unfold distM
  omega
theorem isB_zero {t : Tk} (h : isB t = true) : t.2.1 = 0 := by unfold isB at h; simp only [Bool.and_eq_true, decide_eq_true_eq] at h; exact h.1
def CntM (w W : World) (B gl gd g4 c4 g6 c6 : Nat) (A D : List Int) : Prop :=
  (IOwn W w.heap.size (.slice (some ⟨gl, 0, none⟩) 286 286) A ∧ IOwn W w.heap.size (.slice (some ⟨gd, 0, none⟩) 30 30) D) ∧ (IOwn W B (.slice (some ⟨g4, 0, none⟩) 28 c4) longB ∧ IOwn W B (.slice (some ⟨g6, 0, none⟩) 30 c6) backB) ∧ Below w.heap.size w W ∧ gl ≠ gd ∧ gl < B ∧ gd < B
theorem CntM.drew {w W : World} {B gl gd g4 c4 g6 c6 : Nat} {A D : List Int} (h : CntM w W B gl gd g4 c4 g6 c6 A D) : CntM w W.drew B gl gd g4 c4 g6 c6 A D := ⟨h.1, h.2.1, h.2.2.1.drew, h.2.2.2⟩
theorem CntM.putL {w W : World} {B gl gd g4 c4 g6 c6 : Nat} {A D : List Int} (h : CntM w W B gl gd g4 c4 g6 c6 A D) (hA : A.length = 286) (j : Nat) (x : Int) : CntM w (W.setCell ⟨gl, j, none⟩ (.int .i64 x)) B gl gd g4 c4 g6 c6 (A.set j x) D := by
  obtain ⟨⟨h1, h2⟩, ⟨h3, h4⟩, h5, h6, h7, h8⟩ := h
  have e3 := h3.below.1
  have e4 := h4.below.1
  exact ⟨⟨h1.put hA x, h2.setOther h6 _⟩, ⟨h3.setOther (by omega) _, h4.setOther (by omega) _⟩, below_set h5 h1.below.1 _, h6, h7, h8⟩
theorem CntM.putD {w W : World} {B gl gd g4 c4 g6 c6 : Nat} {A D : List Int} (h : CntM w W B gl gd g4 c4 g6 c6 A D) (hD : D.length = 30) (j : Nat) (x : Int) : CntM w (W.setCell ⟨gd, j, none⟩ (.int .i64 x)) B gl gd g4 c4 g6 c6 A (D.set j x) := by
  obtain ⟨⟨h1, h2⟩, ⟨h3, h4⟩, h5, h6, h7, h8⟩ := h
  have e3 := h3.below.1
  have e4 := h4.below.1
  exact ⟨⟨h1.setOther h6.symm _, h2.put hD x⟩, ⟨h3.setOther (by omega) _, h4.setOther (by omega) _⟩, below_set h5 h2.below.1 _, h6, h7, h8⟩
set_option maxRecDepth 100000 in
set_option maxHeartbeats 6400000 in
theorem l5Counts_any (ta : Option Addr) (tcap tn : Nat) (T : List Tk) (w : World) (htn : T.length = tn) (hT : KRow w ta T) (htm : tn ≤ 300) (hok : ∀ t ∈ T, okT t = true) :
    Calls Tryz.prog 123 #[.slice ta tn tcap] w fun e w' => (∃ gl gd, e = .returned (.tuple #[.slice (some ⟨gl, 0, none⟩) 286 286, .slice (some ⟨gd, 0, none⟩) 30 30]) ∧ IOwn w' w.heap.size (.slice (some ⟨gl, 0, none⟩) 286 286) (litC T) ∧ IOwn w' w.heap.size (.slice (some ⟨gd, 0, none⟩) 30 30) (distC T)) ∧ Below w.heap.size w w' := by
  obtain ⟨i0, hi, hz0, hz1, hz2⟩ := info_parts Tryz.infoInt
  have Htn := hide htn
  have HT := hide hT
  have Htm := hide htm
  have Hok := hide hok
  have htI : (tn : Int) ≤ 300 := by omega
  clear htn hT htm hok
  go_enter Tryz.func123, Tryz.ntmps123
  go_wp2_with (first
    | (at_make; refine wpList_make_full _ rfl _ _ 107 rfl w.heap.size 3 i0 (.int .i64 0) 1 Tryz.underlying107 hi hz0 hz1 .i64 .i64 _ _ 286 rfl rfl rfl rfl (by rw [hz2]; omega) (by unfold maxLen; omega) (Nat.le_refl _) ?_; intro x1 ho1 hg1; have b1 := grown_below hg1; have o1 := made_ints ho1; clear hg1 ho1)
    | (at_make; refine wpList_make_full _ rfl _ _ 107 rfl w.heap.size 3 i0 (.int .i64 0) 1 Tryz.underlying107 hi hz0 hz1 .i64 .i64 _ _ 30 rfl rfl rfl rfl (by rw [hz2]; omega) (by unfold maxLen; omega) b1.size ?_; intro x2 ho2 hg2; have b2 := grown_below hg2; have o2 := made_ints ho2; clear hg2 ho2))
  have lt1 := o1.below.2
  have O1 := hide (o1.later b2 (Nat.le_refl _))
  have O2 := hide o2
  have B2 := hide (bnext b1 b2)
  have lt2 := o2.below.2
  obtain ⟨gl, hgl⟩ : ∃ g, w.heap.size = g := ⟨_, rfl⟩
  obtain ⟨gd, hgd⟩ : ∃ g, x1.heap.size = g := ⟨_, rfl⟩
  have hne : gl ≠ gd := by omega
  have hlt1 : gl < x2.heap.size := by omega
  have hlt2 : gd < x2.heap.size := by omega
  rw [hgd] at O2
  have HO1 : Hid (IOwn x2 w.heap.size (.slice (some ⟨gl, 0, none⟩) 286 286) (List.replicate 286 0)) := by show IOwn _ _ _ _; have := unhide O1; rw [hgl] at this ⊢; exact this
  rw [hgd]
  have eg : Value.slice (some ⟨w.heap.size, 0, none⟩) 286 286 = .slice (some ⟨gl, 0, none⟩) 286 286 := by rw [hgl]
  rw [eg]
  clear o1 o2 b1 b2 lt1 lt2 O1 eg hgl hgd
  refine (longBits_v _).mono ?_
  rintro e x3 ⟨⟨g3, rfl, o3⟩, b3⟩
  have R3 := hide (o3.rowN rfl)
  have B3 := hide b3
  clear o3 b3
  go_wp2_with fail
  refine (l5BaseLong_any _ 28 _ (unhide R3)).mono ?_
  rintro e x4 ⟨v4, rfl, o4, b4⟩
  obtain ⟨a4, c4, rfl⟩ := o4.formN longB_len
  obtain ⟨g4, rfl⟩ := o4.somes (by rw [longB_len]; omega)
  have O4 := hide (o4.mono (unhide B3).size)
  have B4 := hide (bnext (unhide B3) b4)
  clear o4 b4 B3 R3
  go_wp2_with fail
  refine (backBits_v _).mono ?_
  rintro e x5 ⟨⟨g5, rfl, o5⟩, b5⟩
  have R5 := hide (o5.rowN rfl)
  have B5 := hide (bnext (unhide B4) b5)
  have O4' := hide ((unhide O4).later b5 (Nat.le_refl _))
  clear o5 b5 O4
  go_wp2_with fail
  refine (l5BaseBack_any _ 30 _ (unhide R5)).mono ?_
  rintro e x6 ⟨v6, rfl, o6, b6⟩
  obtain ⟨a6, c6, rfl⟩ := o6.formN backB_len
  obtain ⟨g6, rfl⟩ := o6.somes (by rw [backB_len]; omega)
  have hs2 := (unhide B5).size
  have O4 : IOwn x6 x2.heap.size (.slice (some ⟨g4, 0, none⟩) 28 c4) longB := (unhide O4').later b6 (Nat.le_refl _)
  have O6 : IOwn x6 x2.heap.size (.slice (some ⟨g6, 0, none⟩) 30 c6) backB := o6.mono hs2
  have B6 := bnext (unhide B5) b6
  have hC0 : CntM w x6 x2.heap.size gl gd g4 c4 g6 c6 (List.replicate 286 0) (List.replicate 30 0) := ⟨⟨(unhide HO1).later B6 (Nat.le_refl _), (unhide O2).later B6 (Nat.le_refl _)⟩, ⟨O4, O6⟩, bnext (unhide B2) B6, hne, hlt1, hlt2⟩
  have hC1 := hC0.putL (List.length_replicate ..) 256 1
  have e1 : (List.replicate 286 (0 : Int)).set 256 1 = litM T 0 := (litM_zero T).symm
  rw [e1] at hC1
  have hC2 : CntM w (x6.setCell ⟨gl, 256, none⟩ (.int .i64 1)) x2.heap.size gl gd g4 c4 g6 c6 (litM T 0) (distM T 0) := hC1
  obtain ⟨f1, f2, _, _⟩ := hC0.1.1.at (j := 256) (List.length_replicate ..) (by omega)
  clear hC0 hC1 e1 O4 O6 B6 b6 o6 HO1 O2 B2 B4 O4' hs2 R5 B5 hlt1 hlt2
  generalize x2.heap.size = B at *
  go_wp2_with fail
  go_loopw [8, 9] (fun i _ wr => ∃ k : Nat, k ≤ tn ∧ i = .int .i64 k ∧ CntM w wr B gl gd g4 c4 g6 c6 (litM T k) (distM T k)) (fun i _ _ => tn - (intOf i).toNat)
  case atStart => exact ⟨0, Nat.zero_le _, rfl, hC2⟩
  case round =>
    obtain ⟨k, hk, rfl, hC⟩ := hrel
    clear hC2 f1 f2
    by_cases hlt : k < tn
    · obtain ⟨g, o, rfl, hg, hcc⟩ := (unhide HT) (by rw [unhide Htn]; omega)
      obtain ⟨c0, c1, c2⟩ := hcc k (by rw [unhide Htn]; exact hlt)
      have d0 := (hC.2.2.1.cell (p := ⟨g, o + k * 3, none⟩) hg).trans c0
      have d1 := (hC.2.2.1.cell (p := ⟨g, o + k * 3 + 1, none⟩) hg).trans c1
      have d2 := (hC.2.2.1.cell (p := ⟨g, o + k * 3 + 2, none⟩) hg).trans c2
      have hgg : g ≠ gl := by have := hC.1.1.below.1; omega
      have hgg2 : g ≠ gd := by have := hC.1.2.below.1; omega
      clear c0 c1 c2
      have hkT : k < T.length := by rw [unhide Htn]; exact hlt
      have ht := unhide Hok (T.getD k k0) (by simp [List.getD, hkT])
      have hsl := hide (litM_succ T k hkT)
      have hk300 : k ≤ 300 := by have := unhide Htm; omega
      have Hk := hide hlt
      clear hcc
      cases hb : isB (T.getD k k0)
      · have hK : isK (T.getD k k0) = true := by unfold okT at ht; rw [hb] at ht; simpa using ht
        obtain ⟨q1, q2, q3, q4⟩ := isK_bd hK
        have hsd := hide (distM_K T k hkT hb)
        have e2 : litS (T.getD k k0) = 257 + fnd 3 4 (T.getD k k0).2.1.toNat 27 := by unfold litS; rw [if_neg (by rw [hb]; exact Bool.false_ne_true)]
        rw [e2] at hsl
        obtain ⟨y, hy⟩ := Int.eq_ofNat_of_zero_le (show 0 ≤ (T.getD k k0).2.1 by omega)
        obtain ⟨z, hz⟩ := Int.eq_ofNat_of_zero_le (show 0 ≤ (T.getD k k0).2.2 by omega)
        rw [hy] at d1 q1 q2 hsl
        rw [hz] at d2 q3 q4 hsd
        rw [Int.toNat_natCast] at hsl hsd
        have HS1 := hide (fun W (h : IRow W (some ⟨g4, 0, none⟩) longB) => l5Sym_any (some ⟨g4, 0, none⟩) c4 28 longB (y : Int) W longB_len h (by omega) (by omega))
        have HS2 := hide (fun W (h : IRow W (some ⟨g6, 0, none⟩) backB) => l5Sym_any (some ⟨g6, 0, none⟩) c6 30 backB (z : Int) W backB_len h (by omega) (by omega))
        rw [long_sym y (by omega) (by omega)] at HS1
        rw [back_sym z (by omega) (by omega)] at HS2
        have k1 := fnd_le 3 4 y 27
        have k2 := fnd_le 1 2 z 29
        clear hb hK hkT e2 hy hz ht
        generalize fnd 3 4 y 27 = p at *
        generalize fnd 1 2 z 29 = q at *
        have b1 := litM_bd T k (257 + p) hk300
        have b2 := distM_bd T k q hk300
        obtain ⟨m1, m2, _, _⟩ := hC.1.1.at (j := 257 + p) (litM_len T k) (by omega)
        have hC3 := hC.putL (litM_len T k) (257 + p) ((litM T k).getD (257 + p) 0 + 1)
        have el : (litM T k).set (257 + p) ((litM T k).getD (257 + p) 0 + 1) = litM T (k + 1) := (unhide hsl).symm
        rw [el] at hC3
        generalize (litM T k).getD (257 + p) 0 = ya at *
        obtain ⟨m3, m4, _, _⟩ := hC3.1.2.at (j := q) (distM_len T k) (by omega)
        have hC4 := hC3.putD (distM_len T k) q ((distM T k).getD q 0 + 1)
        have ed : (distM T k).set q ((distM T k).getD q 0 + 1) = distM T (k + 1) := (unhide hsd).symm
        rw [ed] at hC4
        generalize (distM T k).getD q 0 = za at *
        have R1 := hide (unhide HS1 wr (hC.2.1.1.rowN longB_len))
        have R2 := hide (unhide HS2 _ (hC3.2.1.2.rowN backB_len))
        have d2' : (wr.setCell ⟨gl, 257 + p, none⟩ (.int .i64 (ya + 1))).cell? ⟨g, o + k * 3 + 2, none⟩ = some (.int .i64 (z : Int)) := by
          rw [World.cell?_setCell_other _ _ _ _ (by intro e; simp only [Addr.mk.injEq] at e; exact hgg e.1.symm)]
          exact d2
        have HC4 := hide hC4
        have hpI : (257 : Int) + (p : Int) < 286 := by omega
        have hqI : (q : Int) < 30 := by omega
        have hyI : ya ≤ 301 := b1.2
        have hzI : za ≤ 300 := b2.2
        have hy0 : 0 ≤ ya := b1.1
        have hz0' : 0 ≤ za := b2.1
        have y0' : ¬ (y : Int) = 0 := by omega
        clear hC hC3 hC4 el ed b1 b2 k1 k2 q1 q2 q3 q4 HS1 HS2 hk300
        go_wp2_with fail
        refine (unhide R1).mono ?_
        rintro e x7 ⟨rfl, hx7⟩
        rw [hx7]
        clear hx7 x7
        go_wp2_with fail
        refine (unhide R2).mono ?_
        rintro e x7 ⟨rfl, hx7⟩
        rw [hx7]
        clear hx7 x7
        go_wp2
        go_roundw
        case rel => exact ⟨k + 1, by have := unhide Hk; omega, by go_num, unhide HC4⟩
        case measure => have := unhide Hk; simp [intOf]; omega
      · obtain ⟨q1, q2⟩ := isB_bd hb
        have hz := isB_zero hb
        have hsd := hide (distM_B T k hkT hb)
        have e2 : litS (T.getD k k0) = (T.getD k k0).1.toNat := by unfold litS; rw [if_pos hb]
        rw [e2] at hsl
        obtain ⟨y, hy⟩ := Int.eq_ofNat_of_zero_le q1
        rw [hy] at d0 q2 hsl
        rw [hz] at d1
        rw [Int.toNat_natCast] at hsl
        clear hb hkT e2 hy hz ht d2 q1
        have b1 := litM_bd T k y hk300
        obtain ⟨m1, m2, _, _⟩ := hC.1.1.at (j := y) (litM_len T k) (by omega)
        have hC3 := hC.drew.putL (litM_len T k) y ((litM T k).getD y 0 + 1)
        have el : (litM T k).set y ((litM T k).getD y 0 + 1) = litM T (k + 1) := (unhide hsl).symm
        rw [el, ← unhide hsd] at hC3
        generalize (litM T k).getD y 0 = ya at *
        have HC3 := hide hC3
        have hyI : ya ≤ 301 := b1.2
        have hy0 : 0 ≤ ya := b1.1
        have hyN : (y : Int) < 286 := by omega
        clear hC hC3 el b1 hk300 q2
        go_wp2
        go_region
        go_wp2
        go_roundw
        case rel => exact ⟨k + 1, by have := unhide Hk; omega, by go_num, unhide HC3⟩
        case measure => have := unhide Hk; simp [intOf]; omega
    · have hkT : T.take k = T := List.take_of_length_le (by rw [unhide Htn]; omega)
      have hkl : k ≤ 300 := by have := unhide Htm; omega
      have eL : litM T k = litC T := by unfold litM; rw [hkT]; exact litC_other T
      have eD : distM T k = distB T := by unfold distM distB; rw [hkT]
      have b2 := distM_bd T k 0 hkl
      rw [eL, eD] at hC
      rw [eD] at b2
      have HU := hide (l3Used_any (some ⟨gd, 0, none⟩) 30 30 (distB T) wr (distB_len T) (hC.1.2.rowN (distB_len T)) (by omega))
      obtain ⟨m1, m2, _, _⟩ := hC.1.2.at (j := 0) (distB_len T) (by omega)
      have HC := hide hC
      clear hC hkT hkl eL eD
      by_cases hu : us (distB T) = 0
      · have hz : (distB T).getD 0 0 = 0 := by have := us_zero hu 0 (by rw [distB_len]; omega); omega
        have HC2 := hide ((unhide HC).putD (distB_len T) 0 1)
        have e1 : (distB T).set 0 1 = distC T := by unfold distC; rw [if_pos hu]; unfold inc; rw [hz]; rfl
        rw [e1] at HC2
        rw [hu] at HU
        clear e1 hz b2 HC hu
        go_wp2_with fail
        refine (unhide HU).mono ?_
        rintro e x7 ⟨rfl, hx7⟩
        rw [hx7]
        clear hx7 x7
        go_wp2
        go_ret2
        exact ⟨⟨gl, gd, rfl, (unhide HC2).1.1, (unhide HC2).1.2⟩, (unhide HC2).2.2.1⟩
      · have e1 : distB T = distC T := by unfold distC; rw [if_neg hu]
        have hub : ((us (distB T) : Nat) : Int) ≠ 0 := by omega
        have hub2 : (((us (distB T) : Nat) : Int) == 0) = false := by simpa using hub
        rw [e1] at HC
        clear e1 b2 hu
        generalize us (distB T) = U at *
        go_wp2_with fail
        refine (unhide HU).mono ?_
        rintro e x7 ⟨rfl, hx7⟩
        rw [hx7]
        clear hx7 x7
        go_wp2
        go_ret2
        exact ⟨⟨gl, gd, rfl, (unhide HC).1.1, (unhide HC).1.2⟩, (unhide HC).2.2.1⟩
end Go.Proofs.YtgpghapnmalipaaGreatDoor
namespace Go.Proofs.YtgpghapnmalipaaGreatDoor
open Go.RowKit Corb
theorem irow_news {w : World} {g o : Nat} {l : List Int} (hcl : ∀ i, i < l.length → w.cell? ⟨g, o + i, none⟩ = some (.int .i64 (l.getD i 0))) : ∀ j u, (l.map (Value.int .i64))[j]? = some u → w.cell? ((⟨g, o, none⟩ : Addr).add j) = some u := by
  intro j u hj
  have hjl : j < l.length := by have := (List.getElem?_eq_some_iff.1 hj).1; simpa using this
  have hadd : (⟨g, o, none⟩ : Addr).add j = ⟨g, o + j, none⟩ := by unfold Addr.add; split <;> simp_all
  rw [hadd, hcl j hjl, ← hj]
  simp [List.getD, hjl]
def lensQ (l : List Int) (t : List Int) : List (Int × Int) := t.map fun x => pcM l x.toNat
theorem lensQ_take (l t : List Int) (k : Nat) (h : k < t.length) : lensQ l (t.take (k + 1)) = lensQ l (t.take k) ++ [pcM l (t.getD k 0).toNat] := by
  unfold lensQ
  rw [take_snocI t k h, List.map_append]; rfl
theorem toldQ (L D : List Int) : listB L D ++ (ordP (lens7 (L ++ D)) 19 ++ lensQ (lens7 (L ++ D)) (L ++ D)) = toldP L D := rfl
def LR (W : World) (b : Nat) (A l : List Int) (gA g7 gc : Option Addr) : Prop := NRow W b gA A ∧ NRow W b g7 l ∧ NRow W b gc (outN l 15).2
theorem LR.keep {W W' : World} {b : Nat} {A l : List Int} {gA g7 gc : Option Addr} (h : LR W b A l gA g7 gc) (hk : Keep5 b W W') : LR W' b A l gA g7 gc := ⟨h.1.keep hk, h.2.1.keep hk, h.2.2.keep hk⟩
set_option maxRecDepth 100000 in
set_option maxHeartbeats 6400000 in
theorem lensM_any (b : Nat) (p : Nat × Nat) (a aD : Option Addr) (cL nL cD nD : Nat) (L D : List Int) (w : World) (ho : OutQ w b p) (hL : IRow w a L) (hD : IRow w aD D) (hnL : L.length = nL) (hnD : D.length = nD)
    (l0 : 257 ≤ nL) (l1 : nL ≤ 286) (d0 : 1 ≤ nD) (d1 : nD ≤ 30) (kL : lensOk L = true) (kD : lensOk D = true) (hp : p.2 ≤ 1000) :
    Calls Tryz.prog 126 #[.pointer (some ⟨b, 0, none⟩), .slice a nL cL, .slice aD nD cD] w fun e w' => e = .returned (.tuple #[]) ∧ OutQ w' b (outP p (toldP L D)) ∧ KB b w w' := by
  obtain ⟨i0, hi, hz0, hz1, hz2⟩ := info_parts Tryz.infoInt
  have hbw : b < w.heap.size := Out.lt ho
  have HA : Hid (∀ x ∈ L ++ D, 0 ≤ x ∧ x ≤ 15) := by
    intro x hx
    rcases List.mem_append.1 hx with h | h
    · exact lens_bd kL x h
    · exact lens_bd kD x h
  obtain ⟨nA, hnA⟩ : ∃ nA, (L ++ D).length = nA := ⟨_, rfl⟩
  have hnA' : nA = nL + nD := by rw [← hnA, List.length_append, hnL, hnD]
  have HF := hide (lens7F (L ++ D) (by omega) (by omega) (unhide HA))
  have HOk := hide (toldP_ok kL kD (by omega) (by omega) (by omega) (by omega))
  have HQ := hide (toldQ L D)
  have HU := hide (cnt7_us (L ++ D) (by omega) (unhide HA))
  have HCk := hide (cnt7_ok (L ++ D) (by omega))
  have HB : Hid (listB L D = [((nL : Int) - 257, 5), ((nD : Int) - 1, 5), (15, 4)]) := by show listB L D = _; unfold listB; rw [hnL, hnD]
  have HB1 : Hid (pOk ((nL : Int) - 257) 5 = true ∧ pOk ((nD : Int) - 1) 5 = true) := by
    have : p2 (5 : Int).toNat = 32 := by decide
    exact ⟨pOk_true.2 ⟨by omega, by omega, by rw [this]; omega⟩, pOk_true.2 ⟨by omega, by omega, by rw [this]; omega⟩⟩
  obtain ⟨g, o, rfl, hg, hcl⟩ := hL (by omega)
  obtain ⟨g', o', rfl, hg', hcl'⟩ := hD (by omega)
  have hB0 : Below w.heap.size w (w.alloc (.cells #[] 3)) := (Below.refl _ _).alloc (Nat.le_refl _) _
  have hR0 : World.ownsRow (w.alloc (.cells #[] 3)) w.heap.size 3 1 (.slice (some ⟨w.heap.size, 0, none⟩) 0 0) 0 [] := World.ownsRow_lit w #[] 0 (Nat.le_refl _) (by unfold maxLen; omega) rfl
  have hnews := hide (irow_news (w := w.alloc (.cells #[] 3)) (g := g) (o := o) (l := L) (fun i hi => by rw [hB0.cell (p := ⟨g, o + i, none⟩) hg]; exact hcl i hi))
  have hnews2 : Hid (∀ W, Below w.heap.size w W → ∀ j u, (D.map (Value.int .i64))[j]? = some u → W.cell? ((⟨g', o', none⟩ : Addr).add j) = some u) := fun W hW => irow_news (fun i hi => by rw [hW.cell (p := ⟨g', o' + i, none⟩) hg']; exact hcl' i hi)
  have hll : Hid ((L.map (Value.int .i64)).length = nL * 1) := by show _ = _; simp [hnL]
  have hld : Hid ((D.map (Value.int .i64)).length = nD * 1) := by show _ = _; simp [hnD]
  have hb1 : Hid ((0 + nL ≤ maxLen ∧ (0 + nL) * 8 ≤ 140737488355328) ∧ (0 + nL + nD ≤ maxLen ∧ (0 + nL + nD) * 8 ≤ 140737488355328)) := by show (_ ∧ _) ∧ _ ∧ _; unfold maxLen; omega
  have nLI : (nL : Int) ≤ 286 := by omega
  have nDI : (nD : Int) ≤ 30 := by omega
  have nLI0 : (257 : Int) ≤ (nL : Int) := by omega
  have nDI0 : (1 : Int) ≤ (nD : Int) := by omega
  have nAI : (nA : Int) ≤ 316 := by omega
  have HNA : Hid (1 ≤ nA ∧ nA ≤ 316 ∧ nA = nL + nD) := by show _ ∧ _; omega
  have HO := hide ho
  have Hp := hide hp
  clear hL hD kL kD l0 l1 d0 d1 hnL hnD hnA' ho hp hcl hcl' hg hg'
  generalize hAe : L ++ D = A at *
  have HAe : Hid (L.map (Value.int .i64) ++ D.map (Value.int .i64) = A.map (Value.int .i64)) := by show _ = _; rw [← hAe, List.map_append]
  have HAn := hide hnA
  clear hnA hAe
  go_enter Tryz.func126, Tryz.ntmps126
  go_wp2_with (first
    | (at_builtin; refine wpList_append_own _ rfl _ _ 107 rfl w.heap.size 3 i0 (.int .i64 0) 1 8 Tryz.underlying107 hi hz0 hz1 hz2 rfl (by decide) _ _ _ rfl hR0 ⟨g, o, none⟩ nL cL (L.map (Value.int .i64)) rfl (unhide hll) (unhide hnews) (ints_oneCell .i64 _) (unhide hb1).1.1 (unhide hb1).1.2 hB0.size ?_; intro v1 x1 hown1 hgrow1 hnil; clear hnil; have hB1 : Below w.heap.size w x1 := hB0.grown hgrow1 hB0.size (fun j hj => (World.ownsRow.lt hR0 j hj).1))
    | (at_builtin; refine wpList_append_own _ rfl _ _ 107 rfl w.heap.size 3 i0 (.int .i64 0) 1 8 Tryz.underlying107 hi hz0 hz1 hz2 rfl (by decide) _ _ _ rfl hown1 ⟨g', o', none⟩ nD cD (D.map (Value.int .i64)) rfl (unhide hld) (unhide hnews2 _ hB1) (ints_oneCell .i64 _) (unhide hb1).2.1 (unhide hb1).2.2 hB1.size ?_; intro v2 x2 hown2 hgrow2 hnil; clear hnil; have hB2 : Below w.heap.size w x2 := hB1.grown hgrow2 hB1.size (fun j hj => (World.ownsRow.lt hown1 j hj).1))
    | (at_make; refine wpList_make_full _ rfl _ _ 107 rfl w.heap.size 3 i0 (.int .i64 0) 1 Tryz.underlying107 hi hz0 hz1 .i64 .i64 _ _ 19 rfl rfl rfl rfl (by rw [hz2]; omega) (by unfold maxLen; omega) hB2.size ?_; intro x3 hown3 hgrow3))
  have hA2 : IOwn x2 w.heap.size v2 A := by
    show World.ownsRow _ _ _ _ _ A.length _
    rw [unhide HAn, (unhide HNA).2.2, ← unhide HAe]
    simpa using hown2
  obtain ⟨aA, cA, rfl⟩ := hA2.formN (unhide HAn)
  obtain ⟨gA, rfl⟩ := hA2.somes (by have := unhide HAn; have := unhide HNA; omega)
  have hg1 := hA2.below.2
  obtain ⟨gC, hgC⟩ : ∃ gC, x2.heap.size = gC := ⟨_, rfl⟩
  have b3 := grown_below hgrow3
  have o2 := made_ints hown3
  rw [hgC] at o2 hg1
  have hb2 := bnext hB2 b3
  have o1 := hA2.later b3 (Nat.le_refl _)
  have hne : gC ≠ gA := by omega
  rw [hgC]
  clear hown1 hown2 hown3 hgrow1 hgrow2 hgrow3 b3 hgC hg1 hB0 hB1 hB2 hR0 hnews hnews2 hll hld hb1 HAe hA2
  go_loopw [8] (fun i wr => ∃ k : Nat, k ≤ nA ∧ i = .int .i64 k ∧ IOwn wr w.heap.size (.slice (some ⟨gA, 0, none⟩) nA cA) A ∧ IOwn wr w.heap.size (.slice (some ⟨gC, 0, none⟩) 19 19) (incs (List.replicate 19 0) ((A.take k).map Int.toNat)) ∧ Below w.heap.size w wr) (fun i _ => nA - (intOf i).toNat)
  case atStart => exact ⟨0, Nat.zero_le _, rfl, o1, o2, hb2⟩
  case round =>
    obtain ⟨k, hk, rfl, hA1, hC1, hbel⟩ := hrel
    clear o1 o2 hb2
    by_cases hlt : k < nA
    · obtain ⟨c0, _, _, _⟩ := hA1.at (unhide HAn) hlt
      have hin : A.getD k 0 ∈ A := by have := unhide HAn; simp [List.getD, show k < A.length by omega]
      have hyb := unhide HA _ hin
      have hst : Hid ((A.take (k + 1)).map Int.toNat = (A.take k).map Int.toNat ++ [(A.getD k 0).toNat]) := by
        show _ = _
        rw [take_snocI A k (by rw [unhide HAn]; exact hlt), List.map_append]; rfl
      have hln : (incs (List.replicate 19 0) ((A.take k).map Int.toNat)).length = 19 := by rw [incs_len, List.length_replicate]
      obtain ⟨y, hy⟩ := Int.eq_ofNat_of_zero_le hyb.1
      rw [hy] at hst c0 hyb
      rw [Int.toNat_natCast] at hst
      have hb := incs_bd 19 ((A.take k).map Int.toNat) y
      have hlk : ((A.take k).map Int.toNat).length ≤ nA := by simp; omega
      obtain ⟨e0, e1, e2, e3⟩ := hC1.at (j := y) hln (by omega)
      have hP := IOwn.put (w := wr.drew) (j := y) hln hC1 ((incs (List.replicate 19 0) ((A.take k).map Int.toNat)).getD y 0 + 1)
      have hP2 : Hid (∀ u, IOwn (wr.drew.setCell ⟨gC, y, none⟩ u) w.heap.size (.slice (some ⟨gA, 0, none⟩) nA cA) A ∧ Below w.heap.size w (wr.drew.setCell ⟨gC, y, none⟩ u)) := fun u => ⟨IOwn.setOther (w := wr.drew) hA1 hne u, below_set hbel.drew e2 u⟩
      have HP : Hid (IOwn (wr.drew.setCell ⟨gC, y, none⟩ (.int .i64 ((incs (List.replicate 19 0) ((A.take k).map Int.toNat)).getD y 0 + 1))) w.heap.size (.slice (some ⟨gC, 0, none⟩) 19 19) (incs (List.replicate 19 0) ((A.take (k + 1)).map Int.toNat))) := by
        show IOwn _ _ _ _
        rw [unhide hst, incs_snoc]
        exact hP
      generalize (incs (List.replicate 19 0) ((A.take k).map Int.toNat)).getD y 0 = z at *
      have hyI : (y : Int) < 19 := by omega
      have hzI : z ≤ 400 := by have := unhide HNA; omega
      have hz0' : 0 ≤ z := hb.1
      have Hk := hide hk
      clear hP hC1 hA1 hbel hlk hb hyb hy hin hk hln e2 e3
      go_wp2
      go_region
      go_wp2
      go_roundw
      case rel => exact ⟨k + 1, by have := unhide Hk; omega, by go_num, (unhide hP2 _).1, unhide HP, (unhide hP2 _).2⟩
      case measure => simp [intOf]; omega
    · have hkn : A.take k = A := List.take_of_length_le (by rw [unhide HAn]; omega)
      rw [hkn] at hC1
      have hC2 : IOwn wr w.heap.size (.slice (some ⟨gC, 0, none⟩) 19 19) (cnt7 A) := hC1
      have HL : Hid (Calls Tryz.prog 125 #[.slice (some ⟨gC, 0, none⟩) 19 19, .int .i64 7] wr fun e w' => (∃ v, e = .returned v ∧ IOwn w' wr.heap.size v (lens7 A)) ∧ Below wr.heap.size wr w') := l3Fit_any (some ⟨gC, 0, none⟩) 19 19 6 (cnt7 A) wr (cnt7_len A) (hC2.rowN (cnt7_len A)) (by omega) (by omega) (unhide HCk) (by rw [seed_usL]; have h2 := p2_6; have := (unhide HU).2; omega) (by omega)
      have hsz := hbel.size
      have O1 := hide hA1
      have B1 := hide hbel
      clear hkn hC1 hC2 hA1 hbel
      go_wp2_with fail
      refine (unhide HL).mono ?_
      rintro e x3 ⟨⟨v3, rfl, o3⟩, b3⟩
      obtain ⟨a3, c3, rfl⟩ := o3.formN (unhide HF).1
      obtain ⟨g3, rfl⟩ := o3.somes (by rw [(unhide HF).1]; omega)
      have O1' := hide ((unhide O1).later b3 (Nat.le_refl _))
      have B3 := hide (bnext (unhide B1) b3)
      have O3 := hide (o3.mono hsz)
      clear o3 b3 HL O1 B1
      go_wp2_with fail
      refine (l3Codes_v (some ⟨g3, 0, none⟩) c3 19 (lens7 A) x3 (unhide HF).1 ((unhide O3).rowN (unhide HF).1) (by omega)).mono ?_
      rintro e x4 ⟨⟨g4, rfl, o4⟩, b4⟩
      have hR : LR x4 b A (lens7 A) (some ⟨gA, 0, none⟩) (some ⟨g3, 0, none⟩) (some ⟨g4, 0, none⟩) := ⟨iown_nrow (unhide HAn) ((unhide O1').later b4 (Nat.le_refl _)) hbw, iown_nrow (unhide HF).1 ((unhide O3).later b4 (Nat.le_refl _)) hbw, iown_nrow ((outN_len _ 15).trans (unhide HF).1) (o4.mono (unhide B3).size) hbw⟩
      have hB4 := bnext (unhide B3) b4
      have hO4 : OutQ x4 b p := Out.kept (unhide HO) hB4
      have hK4 : KB b w x4 := (KB.refl b w).below hB4 (Nat.le_of_lt hbw)
      have HR := hide hR
      have HO4 := hide hO4
      have HK4 := hide hK4
      clear hR o4 b4 hB4 hO4 hK4 O1' O3 B3
      have hLb := outP_bits p (listB L D) (by rw [unhide HB]; intro x hx; simp at hx; rcases hx with rfl | rfl | rfl <;> simp)
      go_wp2_with fail
      refine (putP_any b p ((nL : Int) - 257) 5 x4 (unhide HO4) (unhide HB1).1 (by have := unhide Hp; omega)).mono ?_
      rintro e x5 ⟨rfl, o5, k5⟩
      have HO5 := hide o5
      have HR5 := hide ((unhide HR).keep k5.2)
      have HK5 := hide ((unhide HK4).trans k5)
      have q5 := outP_bits p [((nL : Int) - 257, 5)] (by intro x hx; simp at hx; subst hx; simp)
      clear o5 k5 HO4 HR HK4
      go_wp2_with fail
      refine (putP_any b _ ((nD : Int) - 1) 5 x5 (unhide HO5) (unhide HB1).2 (by have := unhide Hp; simp only [List.length_cons, List.length_nil] at q5; omega)).mono ?_
      rintro e x6 ⟨rfl, o6, k6⟩
      rw [← outP_append] at o6
      have HO6 := hide o6
      have HR6 := hide ((unhide HR5).keep k6.2)
      have HK6 := hide ((unhide HK5).trans k6)
      have q6 := outP_bits p ([((nL : Int) - 257, 5)] ++ [((nD : Int) - 1, 5)]) (by intro x hx; simp at hx; rcases hx with rfl | rfl <;> simp)
      clear o6 k6 HO5 HR5 HK5
      go_wp2_with fail
      refine (putP_any b _ 15 4 x6 (unhide HO6) (by decide) (by have := unhide Hp; simp only [List.length_cons, List.length_nil, List.length_append] at q6; omega)).mono ?_
      rintro e x7 ⟨rfl, o7, k7⟩
      rw [← outP_append] at o7
      have o7' : OutQ x7 b (outP p (listB L D ++ ordP (lens7 A) 0)) := by rw [unhide HB]; exact o7
      have hR7 := (unhide HR6).keep k7.2
      have hK7 := (unhide HK6).trans k7
      clear o7 k7 HO6 HR6 HK6 q5 q6
      go_wp2_with fail
      have HGd := hide (good_of (unhide HF).2.1)
      have Hlb : Hid (∀ l : List (Int × Int), (∀ x ∈ l, x.2 ≤ 16) → l.length ≤ 400 → (outP p (listB L D ++ l)).2 ≤ 100000) := by
        intro l h1 h2
        have h3 := outP_bits p (listB L D ++ l) (by
          intro x hx
          rcases List.mem_append.1 hx with h | h
          · rw [unhide HB] at h; simp at h; rcases h with rfl | rfl | rfl <;> simp
          · exact h1 x h)
        rw [List.length_append] at h3
        have h4 : (listB L D).length = 3 := rfl
        have := unhide Hp
        omega
      clear hLb
      go_loopw [11] (fun i wr => ∃ j : Nat, j ≤ 19 ∧ i = .int .i64 j ∧ OutQ wr b (outP p (listB L D ++ ordP (lens7 A) j)) ∧ LR wr b A (lens7 A) (some ⟨gA, 0, none⟩) (some ⟨g3, 0, none⟩) (some ⟨g4, 0, none⟩) ∧ KB b w wr) (fun i _ => 19 - (intOf i).toNat)
      case atStart => exact ⟨0, by omega, rfl, o7', hR7, hK7⟩
      case round =>
        obtain ⟨j, hj19, rfl, hoo, hrr, hkk⟩ := hrel
        clear o7' hR7 hK7
        by_cases hlt : j < 19
        · have hst : Hid (outP p (listB L D ++ ordP (lens7 A) (j + 1)) = outP (outP p (listB L D ++ ordP (lens7 A) j)) [((lens7 A).getD (ordL.getD j 0) 0, 3)]) := by show _ = _; rw [ordP_succ (lens7 A) j hlt, ← List.append_assoc, outP_append]
          have hol := ord_lt j hlt
          have hbits := unhide Hlb (ordP (lens7 A) j) (by intro x hx; unfold ordP at hx; obtain ⟨i, _, rfl⟩ := List.mem_map.1 hx; simp) (by rw [ordP_len _ _ hj19]; omega)
          have hyb := (unhide HF).2.2 (ordL.getD j 0) hol
          have hog := ordI_get j hlt
          have hlt0 := Out.lt hoo
          have HJ := hide (And.intro hlt (And.intro hoo (And.intro hrr hkk)))
          have hjI : (j : Int) < 19 := by omega
          clear hoo hrr hkk hj19
          generalize outP p (listB L D ++ ordP (lens7 A) j) = P at *
          go_wp2_with fail
          refine (l5Order_any wr).mono ?_
          rintro e x8 ⟨⟨g8, rfl, o8⟩, b8⟩
          obtain ⟨d8, _, _, _⟩ := o8.at (j := j) ordI_len hlt
          rw [hog] at d8
          have hrr8 := (unhide HJ).2.2.1.keep (keep_below b8)
          have hoo8 : OutQ x8 b P := Out.kept (unhide HJ).2.1 b8
          have hkk8 := (unhide HJ).2.2.2.below b8 (Nat.le_of_lt hlt0)
          obtain ⟨g, o, e, _, dd⟩ := irow_cell hrr8.2.1 (k := ordL.getD j 0) (by rw [(unhide HF).1]; exact hol)
          cases e
          rw [Nat.zero_add] at dd
          have hP1 : pOk ((lens7 A).getD (ordL.getD j 0) 0) 3 = true := by
            have : p2 (3 : Int).toNat = 8 := by decide
            exact pOk_true.2 ⟨by omega, hyb.1, by rw [this]; omega⟩
          generalize (lens7 A).getD (ordL.getD j 0) 0 = y at *
          generalize ordL.getD j 0 = q at *
          have hqI : (q : Int) < 19 := by omega
          have HX := hide (And.intro hrr8 hkk8)
          have HPu := hide (putP_any b P y 3 x8 hoo8 hP1 hbits)
          have Hj := hide (unhide HJ).1
          clear o8 b8 hrr8 hoo8 hkk8 HJ hol hyb hog hbits hP1 hlt
          go_wp2_with fail
          refine (unhide HPu).mono ?_
          rintro e x9 ⟨rfl, o9, k9⟩
          rw [← unhide hst] at o9
          have HY := hide (And.intro o9 (And.intro ((unhide HX).1.keep k9.2) ((unhide HX).2.trans k9)))
          clear o9 k9 HX HPu d8 dd hst
          go_wp2
          go_roundw
          case rel => exact ⟨j + 1, by have := unhide Hj; omega, by go_num, (unhide HY).1, (unhide HY).2.1, (unhide HY).2.2⟩
          case measure => have := unhide Hj; simp [intOf]; omega
        · have hj9 : j = 19 := by omega
          have hjI : ¬ (j : Int) < 19 := by omega
          rw [hj9] at hoo
          have hoo' : OutQ wr b (outP p (listB L D ++ (ordP (lens7 A) 19 ++ lensQ (lens7 A) (A.take 0)))) := by
            have e0 : ordP (lens7 A) 19 ++ lensQ (lens7 A) (A.take 0) = ordP (lens7 A) 19 := by unfold lensQ; rw [List.take_zero, List.map_nil, List.append_nil]
            rw [e0]; exact hoo
          clear hoo hlt hj19 hj9
          go_wp2_with fail
          go_loopw [12] (fun i wr => ∃ j : Nat, j ≤ nA ∧ i = .int .i64 j ∧ OutQ wr b (outP p (listB L D ++ (ordP (lens7 A) 19 ++ lensQ (lens7 A) (A.take j)))) ∧ LR wr b A (lens7 A) (some ⟨gA, 0, none⟩) (some ⟨g3, 0, none⟩) (some ⟨g4, 0, none⟩) ∧ KB b w wr) (fun i _ => nA - (intOf i).toNat)
          case atStart => exact ⟨0, by omega, rfl, hoo', hrr, hkk⟩
          case round =>
            obtain ⟨j, hj, rfl, ho1, hr1, hk1⟩ := hrel
            clear hoo' hrr hkk
            by_cases hlt : j < nA
            · have hjA : j < A.length := by rw [unhide HAn]; exact hlt
              have hst : Hid (outP p (listB L D ++ (ordP (lens7 A) 19 ++ lensQ (lens7 A) (A.take (j + 1)))) = outP (outP p (listB L D ++ (ordP (lens7 A) 19 ++ lensQ (lens7 A) (A.take j)))) [pcM (lens7 A) (A.getD j 0).toNat]) := by show _ = _; rw [lensQ_take (lens7 A) A j hjA, ← outP_append, List.append_assoc, List.append_assoc]
              have hbits := unhide Hlb (ordP (lens7 A) 19 ++ lensQ (lens7 A) (A.take j)) (by
                intro x hx
                rcases List.mem_append.1 hx with h | h
                · unfold ordP at h; obtain ⟨i, _, rfl⟩ := List.mem_map.1 h; simp
                · unfold lensQ at h
                  obtain ⟨y, hy, rfl⟩ := List.mem_map.1 h
                  have h1 := unhide HA y (List.mem_of_mem_take hy)
                  have h2 := (unhide HF).2.2 y.toNat (by omega)
                  show (lens7 A).getD y.toNat 0 ≤ 16
                  omega) (by rw [List.length_append, ordP_len _ _ (Nat.le_refl _)]; unfold lensQ; rw [List.length_map, List.length_take]; have := unhide HNA; omega)
              have hyb := unhide HA (A.getD j 0) (by simp [List.getD, hjA])
              obtain ⟨g, o, e, _, dd⟩ := irow_cell hr1.1 (k := j) hjA
              cases e
              rw [Nat.zero_add] at dd
              obtain ⟨q, hq⟩ := Int.eq_ofNat_of_zero_le hyb.1
              rw [hq] at dd hyb hst
              rw [Int.toNat_natCast] at hst
              have hgd := unhide HGd q (by rw [(unhide HF).1]; omega)
              have HPu := hide (sym_any b _ (some ⟨g3, 0, none⟩) (some ⟨g4, 0, none⟩) c3 19 19 q (lens7 A) wr ho1 (unhide HF).1 hr1.2.1.1 hr1.2.2.1 (by omega) (by omega) hgd.1 hgd.2 hbits)
              rw [← unhide hst] at HPu
              have HX := hide (And.intro hr1 hk1)
              have Hj := hide hlt
              clear ho1 hr1 hk1 hj hlt hjA hst hbits hyb hq hgd
              go_wp2_with fail
              refine (unhide HPu).mono ?_
              rintro e x9 ⟨rfl, o9, k9⟩
              have HY := hide (And.intro o9 (And.intro ((unhide HX).1.keep k9.2) ((unhide HX).2.trans k9)))
              clear o9 k9 HX HPu dd
              go_wp2
              go_roundw
              case rel => exact ⟨j + 1, by have := unhide Hj; omega, by go_num, (unhide HY).1, (unhide HY).2.1, (unhide HY).2.2⟩
              case measure => have := unhide Hj; simp [intOf]; omega
            · have hjn : A.take j = A := List.take_of_length_le (by rw [unhide HAn]; omega)
              rw [hjn, unhide HQ] at ho1
              have HY := hide (And.intro ho1 hk1)
              clear ho1 hr1 hk1 hjn
              go_wp2
              go_end0
              exact ⟨rfl, (unhide HY).1, (unhide HY).2⟩
end Go.Proofs.YtgpghapnmalipaaGreatDoor
