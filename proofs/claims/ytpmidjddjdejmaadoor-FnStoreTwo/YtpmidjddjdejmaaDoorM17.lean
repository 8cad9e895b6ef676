/- Of what the proof is made: 4 texts, one behind the other. -/
import Derived.Test.YtpmidjddjdejmaaDoorFk3
import Derived.Test.YtpmidjddjdejmaaDoorFb4
import Derived.Test.YtpmidjddjdejmaaDoorTo2
import Derived.Deep.RegionHeld3
import Derived.Deep.DeepCutAuto
import Derived.Test.YtpmidjddjdejmaaDoorM12
/- The model writes tokens: (*l1Out).tokens. -/
namespace Go.Proofs.YtpmidjddjdejmaaDoor
open Go.RowKit Corb

/-- Tokens in blocks of their own. -/
def NKRow (w : World) (b : Nat) (a : Option Addr) (l : List Tk) : Prop := KRow w a l ∧ (0 < l.length → ∀ x, a = some x → x.block ≠ b ∧ ∀ cur fr, w.heap[x.block]? ≠ some (.cells cur 5 fr))
theorem NKRow.keep {w w' : World} {b : Nat} {a : Option Addr} {l : List Tk} (h : NKRow w b a l) (hk : Keep5 b w w') : NKRow w' b a l := by
  by_cases h0 : 0 < l.length
  · obtain ⟨g, o, e, hg, hc⟩ := h.1 h0
    obtain ⟨h1, h2⟩ := h.2 h0 _ e
    have hb := hk.2 g hg h1 h2
    refine ⟨fun _ => ⟨g, o, e, Nat.lt_of_lt_of_le hg hk.1, fun i hi => ?_⟩, fun _ x ex => ?_⟩
    · obtain ⟨c0, c1, c2⟩ := hc i hi
      exact ⟨by rw [← c0]; exact World.cell?_of_block (w := w) hb, by rw [← c1]; exact World.cell?_of_block (w := w) hb, by rw [← c2]; exact World.cell?_of_block (w := w) hb⟩
    · have : x = ⟨g, o, none⟩ := by rw [ex] at e; exact Option.some.inj e
      subst this
      exact ⟨h1, fun cur fr => by rw [hb]; exact h2 cur fr⟩
  · exact ⟨fun h => absurd h h0, fun h => absurd h h0⟩
theorem kown_nrow {w : World} {b base n cap : Nat} {a : Option Addr} {l : List Tk} (hn : l.length = n) (h : KOwn w base (.slice a n cap) l) (hb : b < base) : NKRow w b a l := by
  refine ⟨h.rowN hn, fun h0 x ex => ?_⟩
  subst ex
  rcases h.2 with ⟨e, _⟩ | ⟨g, cap', cur, e, hbg, hg, _⟩
  · cases e
  · simp only [Value.slice.injEq, Option.some.injEq] at e
    obtain ⟨rfl, _⟩ := e
    refine ⟨by show g ≠ b; omega, fun cur' fr => ?_⟩
    show w.heap[g]? ≠ _
    rw [hg]
    intro e
    cases e
/-- The pieces of a token as the model has them. -/
def pcTM (L D : List Int) (t : Tk) : List (Int × Int) :=
  if isB t then [pcM L t.1.toNat]
  else [pcM L (257 + fnd 3 4 t.2.1.toNat 27), ((t.2.1.toNat : Int) - ((stF 3 4 (fnd 3 4 t.2.1.toNat 27)).1 : Int), ((stF 3 4 (fnd 3 4 t.2.1.toNat 27)).2 : Nat)), pcM D (fnd 1 2 t.2.2.toNat 29), ((t.2.2.toNat : Int) - ((stF 1 2 (fnd 1 2 t.2.2.toNat 29)).1 : Int), ((stF 1 2 (fnd 1 2 t.2.2.toNat 29)).2 : Nat))]
/-- All rows that the model reads while it writes tokens. -/
def RR (W : World) (b : Nat) (L D : List Int) (T : List Tk) (a a2 va vb vl vk at_ : Option Addr) : Prop :=
  (NRow W b a L ∧ NRow W b a2 D) ∧ (NRow W b va (outN L 15).2 ∧ NRow W b vb (outN D 15).2) ∧ (NRow W b vl longB ∧ NRow W b vk backB) ∧ NKRow W b at_ T
theorem RR.keep {W W' : World} {b : Nat} {L D : List Int} {T : List Tk} {a a2 va vb vl vk at_ : Option Addr} (h : RR W b L D T a a2 va vb vl vk at_) (hk : Keep5 b W W') : RR W' b L D T a a2 va vb vl vk at_ :=
  ⟨⟨h.1.1.keep hk, h.1.2.keep hk⟩, ⟨h.2.1.1.keep hk, h.2.1.2.keep hk⟩, ⟨h.2.2.1.1.keep hk, h.2.2.1.2.keep hk⟩, h.2.2.2.keep hk⟩
/-- Lengths and codes that can be written. -/
def goodL (l : List Int) : Prop := ∀ k, k < l.length → (0 ≤ l.getD k 0 ∧ l.getD k 0 ≤ 15) ∧ (0 ≤ (outN l 15).2.getD k 0 ∧ (outN l 15).2.getD k 0 < 65536)
theorem keep_below {b : Nat} {w w' : World} (h : Below w.heap.size w w') : Keep5 b w w' := ⟨h.size, fun k hk _ _ => h.block k hk⟩
theorem blk_keep {b g : Nat} {w w' : World} {cs : Array Value} {t : TypeId} (hk : Keep5 b w w') (h : w.heap[g]? = some (Obj.cells cs t)) (hg : g ≠ b) (ht : t ≠ 5) : w'.heap[g]? = some (Obj.cells cs t) := by
  refine (hk.2 g (heap_lt h) hg (fun cur fr => ?_)).trans h
  rw [h]
  intro e
  cases e
  exact ht rfl
theorem irow_cell {w : World} {b k : Nat} {a : Option Addr} {l : List Int} (h : NRow w b a l) (hk : k < l.length) : ∃ g o, a = some ⟨g, o, none⟩ ∧ g < w.heap.size ∧ w.cell? ⟨g, o + k, none⟩ = some (.int .i64 (l.getD k 0)) := by
  obtain ⟨g, o, e, hg, hc⟩ := h.1 (by omega)
  exact ⟨g, o, e, hg, hc k hk⟩
theorem stF_long (y : Nat) (h0 : 3 ≤ y) (h1 : y ≤ 60) : pOk ((y : Int) - ((stF 3 4 (fnd 3 4 y 27)).1 : Int)) ((stF 3 4 (fnd 3 4 y 27)).2 : Nat) = true := by
  have : (List.range 61).all (fun y => decide (y < 3) || pOk ((y : Int) - ((stF 3 4 (fnd 3 4 y 27)).1 : Int)) ((stF 3 4 (fnd 3 4 y 27)).2 : Nat)) = true := by decide +kernel
  have := List.all_eq_true.1 this y (List.mem_range.2 (by omega))
  simp only [Bool.or_eq_true, decide_eq_true_eq] at this
  rcases this with h | h
  · omega
  · exact h
theorem stF_back (z : Nat) (h0 : 1 ≤ z) (h1 : z ≤ 250) : pOk ((z : Int) - ((stF 1 2 (fnd 1 2 z 29)).1 : Int)) ((stF 1 2 (fnd 1 2 z 29)).2 : Nat) = true := by
  have : (List.range 251).all (fun z => decide (z < 1) || pOk ((z : Int) - ((stF 1 2 (fnd 1 2 z 29)).1 : Int)) ((stF 1 2 (fnd 1 2 z 29)).2 : Nat)) = true := by decide +kernel
  have := List.all_eq_true.1 this z (List.mem_range.2 (by omega))
  simp only [Bool.or_eq_true, decide_eq_true_eq] at this
  rcases this with h | h
  · omega
  · exact h
theorem outP_bits (p : Nat × Nat) (l : List (Int × Int)) (h : ∀ x ∈ l, x.2 ≤ 16) : (outP p l).2 ≤ p.2 + 16 * l.length := by
  unfold outP natP
  induction l generalizing p with
  | nil => simp [putV]
  | cons x r ih =>
    have h1 := h x (by simp)
    have h2 := ih (p.1 + x.1.toNat * 2 ^ p.2, p.2 + x.2.toNat) (fun y hy => h y (by simp [hy]))
    simp only [List.map_cons, putV, List.length_cons] at *
    omega

theorem pcTM_bits (L D : List Int) (t : Tk) (gL : goodL L) (gD : goodL D) (hf : fitsT L D t) : (∀ x ∈ pcTM L D t, x.2 ≤ 16) ∧ (pcTM L D t).length ≤ 4 := by
  unfold pcTM
  unfold fitsT at hf
  split
  · rename_i h
    rw [if_pos h] at hf
    refine ⟨fun x hx => ?_, by simp⟩
    simp only [List.mem_cons, List.not_mem_nil, or_false] at hx
    subst hx
    have := (gL _ hf).1.2
    show L.getD _ 0 ≤ 16
    omega
  · rename_i h
    rw [if_neg h] at hf
    refine ⟨fun x hx => ?_, by simp⟩
    simp only [List.mem_cons, List.not_mem_nil, or_false] at hx
    have s1 := stF_bd (L := 3) (G := 4) (k := fnd 3 4 t.2.1.toNat 27) (by omega) (by omega) (by omega) (by have := fnd_le 3 4 t.2.1.toNat 27; omega)
    have s2 := stF_bd (L := 1) (G := 2) (k := fnd 1 2 t.2.2.toNat 29) (by omega) (by omega) (by omega) (by have := fnd_le 1 2 t.2.2.toNat 29; omega)
    rcases hx with rfl | rfl | rfl | rfl
    · have := (gL _ hf.1).1.2; show L.getD _ 0 ≤ 16; omega
    · show ((_ : Nat) : Int) ≤ 16; omega
    · have := (gD _ hf.2).1.2; show D.getD _ 0 ≤ 16; omega
    · show ((_ : Nat) : Int) ≤ 16; omega
theorem flatM_bits (L D : List Int) (T : List Tk) (p : Nat × Nat) (gL : goodL L) (gD : goodL D) (hf : ∀ t ∈ T, fitsT L D t) : (outP p (T.flatMap (pcTM L D))).2 ≤ p.2 + 64 * T.length := by
  induction T generalizing p with
  | nil => simp [outP, natP, putV]
  | cons t r ih =>
    rw [List.flatMap_cons, outP_append]
    obtain ⟨h1, h2⟩ := pcTM_bits L D t gL gD (hf t (by simp))
    have h3 := outP_bits p (pcTM L D t) h1
    have h4 := ih (outP p (pcTM L D t)) (fun x hx => hf x (by simp [hx]))
    simp only [List.length_cons]
    omega

end Go.Proofs.YtpmidjddjdejmaaDoor
/- The model writes tokens: the walk of (*l1Out).tokens. -/
namespace Go.Proofs.YtpmidjddjdejmaaDoor
open Go.RowKit Corb

theorem l3Codes_v (a : Option Addr) (cap n : Nat) (l : List Int) (w : World) (hn : l.length = n) (h : IRow w a l) (hm : n ≤ 300) :
    Calls Tryd.prog 61 #[.slice a n cap] w fun e w' => (∃ g, e = .returned (.slice (some ⟨g, 0, none⟩) n n) ∧ IOwn w' w.heap.size (.slice (some ⟨g, 0, none⟩) n n) (outN l 15).2) ∧ Below w.heap.size w w' :=
  (l3Codes_any a cap n l w hn h hm).mono fun _ _ ⟨he, ho, hb⟩ => ⟨⟨_, he, ho⟩, hb⟩
theorem longBits_v (w : World) : Calls Tryd.prog 63 #[] w fun e w' => (∃ g, e = .returned (.slice (some ⟨g, 0, none⟩) 28 28) ∧ IOwn w' w.heap.size (.slice (some ⟨g, 0, none⟩) 28 28) longL) ∧ Below w.heap.size w w' :=
  (longBits_any w).mono fun _ _ ⟨he, ho, hb⟩ => ⟨⟨_, he, ho⟩, hb⟩
theorem backBits_v (w : World) : Calls Tryd.prog 64 #[] w fun e w' => (∃ g, e = .returned (.slice (some ⟨g, 0, none⟩) 30 30) ∧ IOwn w' w.heap.size (.slice (some ⟨g, 0, none⟩) 30 30) backL) ∧ Below w.heap.size w w' :=
  (backBits_any w).mono fun _ _ ⟨he, ho, hb⟩ => ⟨⟨_, he, ho⟩, hb⟩
theorem longB_len : longB.length = 28 := baseL_len _ _ _
theorem backB_len : backB.length = 30 := baseL_len _ _ _
set_option maxRecDepth 100000 in
set_option maxHeartbeats 6400000 in
theorem tokensM_any (b : Nat) (p : Nat × Nat) (ta a a2 : Option Addr) (tcap tn cap n cap2 n2 : Nat) (T : List Tk) (L D : List Int) (w : World) (ho : OutQ w b p) (hT : NKRow w b ta T) (hL : NRow w b a L) (hD : NRow w b a2 D)
    (htn : T.length = tn) (hn : L.length = n) (hn2 : D.length = n2) (hn3 : n ≤ 300) (hn4 : n2 ≤ 300) (gL : goodL L) (gD : goodL D) (h256 : 256 < n) (htm : (tn : Int) ≤ 300) (hp : p.2 ≤ 10000)
    (hok : ∀ t ∈ T, okT t = true ∧ fitsT L D t) :
    Calls Tryd.prog 40 #[.pointer (some ⟨b, 0, none⟩), .slice ta tn tcap, .slice a n cap, .slice a2 n2 cap2] w fun e w' => e = .returned (.tuple #[]) ∧ OutQ w' b (outP p (T.flatMap (pcTM L D) ++ [pcM L 256])) ∧ KB b w w' := by
  have hbw : b < w.heap.size := Out.lt ho
  have hmix : Tryd.prog.follows .mixedOrders = true := by kernel_rfl
  have HT := hide hT
  have HO := hide ho
  have HL := hide hL
  have HD := hide hD
  have Htn := hide htn
  have Hn := hide hn
  have Hn2 := hide hn2
  have Hn3 := hide hn3
  have Hn4 := hide hn4
  have HgL := hide gL
  have HgD := hide gD
  have H256 := hide h256
  have Hp := hide hp
  have Hok := hide hok
  have hnI : (n : Int) ≤ 300 := by omega
  have hnI2 : (n2 : Int) ≤ 300 := by omega
  clear hT ho hL hD htn hn hn2 hn3 hn4 gL gD h256 hp hok
  go_enter Tryd.func40, Tryd.ntmps40
  go_wp2_with fail
  refine (l3Codes_v a cap n L _ (unhide Hn) (unhide HL).1 (unhide Hn3)).mono ?_
  rintro e x1 ⟨⟨g1, rfl, o1⟩, b1⟩
  have N1 := hide (iown_nrow ((outN_len L 15).trans (unhide Hn)) o1 hbw)
  have B1 := hide b1
  clear o1 b1
  go_wp2_with fail
  refine (l3Codes_v a2 cap2 n2 D _ (unhide Hn2) ((unhide HD).below (unhide B1)).1 (unhide Hn4)).mono ?_
  rintro e x2 ⟨⟨g2, rfl, o2⟩, b2⟩
  have N2 := hide (iown_nrow ((outN_len D 15).trans (unhide Hn2)) o2 (Nat.lt_of_lt_of_le hbw (unhide B1).size))
  have N1' := hide ((unhide N1).below b2)
  have B2 := hide (bnext (unhide B1) b2)
  clear o2 b2 N1 B1
  go_wp2_with fail
  refine (longBits_v _).mono ?_
  rintro e x3 ⟨⟨g3, rfl, o3⟩, b3⟩
  have R3 := hide (o3.rowN rfl)
  have B3 := hide (bnext (unhide B2) b3)
  have N1 := hide ((unhide N1').below b3)
  have N2' := hide ((unhide N2).below b3)
  clear o3 b3 B2 N1' N2
  go_wp2_with fail
  refine (l5BaseLong_any _ 28 _ (unhide R3)).mono ?_
  rintro e x4 ⟨v4, rfl, o4, b4⟩
  obtain ⟨a4, c4, rfl⟩ := o4.formN longB_len
  have N4 := hide (iown_nrow longB_len o4 (Nat.lt_of_lt_of_le hbw (unhide B3).size))
  have B4 := hide (bnext (unhide B3) b4)
  have N1' := hide ((unhide N1).below b4)
  have N2 := hide ((unhide N2').below b4)
  clear o4 b4 B3 N1 N2' R3
  go_wp2_with fail
  refine (backBits_v _).mono ?_
  rintro e x5 ⟨⟨g5, rfl, o5⟩, b5⟩
  have R5 := hide (o5.rowN rfl)
  have B5 := hide (bnext (unhide B4) b5)
  have N1 := hide ((unhide N1').below b5)
  have N2' := hide ((unhide N2).below b5)
  have N4' := hide ((unhide N4).below b5)
  clear o5 b5 B4 N1' N2 N4
  go_wp2_with fail
  refine (l5BaseBack_any _ 30 _ (unhide R5)).mono ?_
  rintro e x6 ⟨v6, rfl, o6, b6⟩
  obtain ⟨a6, c6, rfl⟩ := o6.formN backB_len
  have N6 := hide (iown_nrow backB_len o6 (Nat.lt_of_lt_of_le hbw (unhide B5).size))
  have B6 := hide (bnext (unhide B5) b6)
  have HR6 : Hid (RR x6 b L D T a a2 (some ⟨g1, 0, none⟩) (some ⟨g2, 0, none⟩) a4 a6 ta) :=
    ⟨⟨(unhide HL).below (unhide B6), (unhide HD).below (unhide B6)⟩, ⟨(unhide N1).below b6, (unhide N2').below b6⟩, ⟨(unhide N4').below b6, unhide N6⟩, (unhide HT).keep (keep_below (unhide B6))⟩
  have HO6 : Hid (OutQ x6 b (outP p ((T.take 0).flatMap (pcTM L D)))) := Out.kept (unhide HO) (unhide B6)
  have HK6 : Hid (KB b w x6) := (KB.refl b w).below (unhide B6) (Nat.le_of_lt hbw)
  clear o6 b6 B5 N1 N2' N4' N6 R5 HT HO HL HD B6
  go_wp2_with fail
  go_loopw [12, 13, 14] (fun i _ _ wr => ∃ k : Nat, k ≤ tn ∧ i = .int .i64 k ∧ OutQ wr b (outP p ((T.take k).flatMap (pcTM L D))) ∧ RR wr b L D T a a2 (some ⟨g1, 0, none⟩) (some ⟨g2, 0, none⟩) a4 a6 ta ∧ KB b w wr) (fun i _ _ _ => tn - (intOf i).toNat)
  case atStart => exact ⟨0, Nat.zero_le _, rfl, unhide HO6, unhide HR6, unhide HK6⟩
  case round =>
    obtain ⟨k, hk, rfl, ho, hrr, hkb⟩ := hrel
    clear HO6 HR6 HK6
    have HO := hide ho
    have HRR := hide hrr
    have HKB := hide hkb
    have HK := hide hk
    have hbr : Hid (b < wr.heap.size) := Out.lt ho
    clear ho hkb hk
    by_cases hlt : k < tn
    · have hltI : (k : Int) < (tn : Int) := by omega
      obtain ⟨g, o, rfl, hg, hc⟩ := hrr.2.2.2.1 (by rw [unhide Htn]; omega)
      obtain ⟨c0, c1, c2⟩ := hc k (by rw [unhide Htn]; exact hlt)
      have Hstep : Hid ((T.take (k + 1)).flatMap (pcTM L D) = (T.take k).flatMap (pcTM L D) ++ pcTM L D (T.getD k k0)) := by
        show (T.take (k + 1)).flatMap (pcTM L D) = _
        rw [take_snocK T k (by rw [unhide Htn]; exact hlt)]
        simp
      obtain ⟨hokk, hfit⟩ := unhide Hok (T.getD k k0) (by have : k < T.length := by rw [unhide Htn]; exact hlt
                                                          simp [List.getD, this])
      have Hbits : Hid ((outP p ((T.take k).flatMap (pcTM L D))).2 ≤ 80000) := by
        show _ ≤ _
        have h1 := flatM_bits L D (T.take k) p (unhide HgL) (unhide HgD) (fun t ht => (unhide Hok t (List.mem_of_mem_take ht)).2)
        have h2 : (T.take k).length ≤ k := List.length_take_le _ _
        have h3 := unhide Hp
        omega
      clear hc hrr
      generalize T.getD k k0 = t at *
      have HPE : Hid (outP p ((T.take (k + 1)).flatMap (pcTM L D)) = outP (outP p ((T.take k).flatMap (pcTM L D))) (pcTM L D t)) := by
        show outP p _ = _
        rw [unhide Hstep, outP_append]
      generalize outP p ((T.take k).flatMap (pcTM L D)) = P at *
      have hbA : Below wr.heap.size wr (wr.alloc (.cells #[.int .i64 t.1, .int .i64 t.2.1, .int .i64 t.2.2] 117)) := (Below.refl _ _).alloc (Nat.le_refl _) _
      have HO1 : Hid (OutQ (wr.alloc (.cells #[.int .i64 t.1, .int .i64 t.2.1, .int .i64 t.2.2] 117)) b P) := Out.kept (unhide HO) hbA
      have HR1 := hide ((unhide HRR).keep (keep_below hbA))
      have HK1 := hide ((unhide HKB).below hbA (Nat.le_of_lt (unhide hbr)))
      have HB1 := hide (alloc_at wr (.cells #[.int .i64 t.1, .int .i64 t.2.1, .int .i64 t.2.2] 117))
      clear hbA HO HRR HKB
      cases hB : isB t
      · have hK : isK t = true := by unfold okT at hokk; rw [hB] at hokk; simpa using hokk
        obtain ⟨y0, y1, z0, z1⟩ := isK_bd hK
        have hx0 : t.1 = 0 := by unfold isK at hK; simp only [Bool.and_eq_true, decide_eq_true_eq] at hK; exact hK.1.1
        have hf2 : Hid (257 + fnd 3 4 t.2.1.toNat 27 < n ∧ fnd 1 2 t.2.2.toNat 29 < n2) := by
          have := hfit
          unfold fitsT at this
          rw [if_neg (by simp [hB]), unhide Hn, unhide Hn2] at this
          exact this
        have HPc : Hid (pcTM L D t = [pcM L (257 + fnd 3 4 t.2.1.toNat 27), ((t.2.1.toNat : Int) - ((stF 3 4 (fnd 3 4 t.2.1.toNat 27)).1 : Int), ((stF 3 4 (fnd 3 4 t.2.1.toNat 27)).2 : Nat)), pcM D (fnd 1 2 t.2.2.toNat 29), ((t.2.2.toNat : Int) - ((stF 1 2 (fnd 1 2 t.2.2.toNat 29)).1 : Int), ((stF 1 2 (fnd 1 2 t.2.2.toNat 29)).2 : Nat))]) := by
          show pcTM L D t = _; unfold pcTM; rw [if_neg (by simp [hB])]
        have hy : t.2.1 = ((t.2.1.toNat : Nat) : Int) := by omega
        have hz : t.2.2 = ((t.2.2.toNat : Nat) : Int) := by omega
        have hyN : 3 ≤ t.2.1.toNat ∧ t.2.1.toNat ≤ 60 := by omega
        have hzN : 1 ≤ t.2.2.toNat ∧ t.2.2.toNat ≤ 250 := by omega
        have Eok1 := hide (stF_long t.2.1.toNat hyN.1 hyN.2)
        have Eok2 := hide (stF_back t.2.2.toNat hzN.1 hzN.2)
        have Sy1 := hide (long_sym t.2.1.toNat hyN.1 hyN.2)
        have Sy2 := hide (back_sym t.2.2.toNat hzN.1 hzN.2)
        have hl1 := fnd_le 3 4 t.2.1.toNat 27
        have hl2 := fnd_le 1 2 t.2.2.toNat 29
        have At1 := hide (longB_at (fnd 3 4 t.2.1.toNat 27) (by omega))
        have At2 := hide (backB_at (fnd 1 2 t.2.2.toNat 29) (by omega))
        have Bt1 := hide (longL_at (fnd 3 4 t.2.1.toNat 27) (by omega))
        have Bt2 := hide (backL_at (fnd 1 2 t.2.2.toNat 29) (by omega))
        generalize stF 3 4 (fnd 3 4 t.2.1.toNat 27) = E at *
        generalize stF 1 2 (fnd 1 2 t.2.2.toNat 29) = E' at *
        generalize fnd 3 4 t.2.1.toNat 27 = f at *
        generalize fnd 1 2 t.2.2.toNat 29 = f' at *
        clear hB hK hokk hfit
        obtain ⟨tx, ty, tz⟩ := t
        simp only at hx0 y0 y1 z0 z1 hy hz hyN hzN c0 c1 c2 HR1 HK1 HO1 HB1 HPc Eok1 Eok2 Sy1 Sy2 HPE
        generalize ty.toNat = y at *
        generalize tz.toNat = z at *
        subst hx0 hy hz
        have hfI : (f : Int) < 28 := by omega
        have hfI' : (f' : Int) < 30 := by omega
        have hf28 : Hid (f < 28) := by show f < 28; omega
        have hf30 : Hid (f' < 30) := by show f' < 30; omega
        have hE1 := pOk_true.1 (unhide Eok1)
        have hE2 := pOk_true.1 (unhide Eok2)
        have e1a : 0 ≤ (y : Int) - (E.1 : Int) := hE1.2.1
        have e2a : 0 ≤ (z : Int) - (E'.1 : Int) := hE2.2.1
        have yI : (y : Int) ≤ 60 := by omega
        have zI : (z : Int) ≤ 250 := by omega
        have y3 : ¬ (y : Int) = 0 := by omega
        have hwr1 := wrap_id ((y : Int) - (E.1 : Int)) (by omega) (by omega)
        have hwr2 := wrap_id ((z : Int) - (E'.1 : Int)) (by omega) (by omega)
        clear hE1 hE2 hl1 hl2 hyN hzN
        obtain ⟨gl, ol, rfl, hgl, hcl⟩ := irow_cell (unhide HR1).2.2.1.1 (by rw [longB_len]; exact unhide hf28)
        obtain ⟨gk, ok, rfl, hgk, hck⟩ := irow_cell (unhide HR1).2.2.1.2 (by rw [backB_len]; exact unhide hf30)
        have HLs := hide (fun W (hR : NRow W b (some ⟨gl, ol, none⟩) longB) => l5Sym_any (some ⟨gl, ol, none⟩) c4 28 longB (y : Int) W longB_len hR.1 (by omega) (by omega))
        have HKs := hide (fun W (hR : NRow W b (some ⟨gk, ok, none⟩) backB) => l5Sym_any (some ⟨gk, ok, none⟩) c6 30 backB (z : Int) W backB_len hR.1 (by omega) (by omega))
        rw [unhide Sy1] at HLs
        rw [unhide Sy2] at HKs
        have hne : Hid (wr.heap.size ≠ b) := by show _ ≠ _; have := unhide hbr; omega
        clear hcl hck hgl hgk
        go_wp2_with fail
        refine (unhide HLs _ (unhide HR1).2.2.1.1).mono ?_
        rintro e w7 ⟨rfl, hw7⟩
        rw [hw7]
        clear hw7
        have eI : (257 : Int) + (f : Int) = ((257 + f : Nat) : Int) := by omega
        have HSy := hide (sym_any b P a (some ⟨g1, 0, none⟩) cap n n (257 + f) L _ (unhide HO1) (unhide Hn) (unhide HR1).1.1.1 (unhide HR1).2.1.1.1 (unhide hf2).1 (unhide Hn3) ((unhide HgL) _ (by rw [unhide Hn]; exact (unhide hf2).1)).1 ((unhide HgL) _ (by rw [unhide Hn]; exact (unhide hf2).1)).2 (by have := unhide Hbits; omega))
        rw [← eI] at HSy
        clear eI
        go_wp2_with fail
        refine (unhide HSy).mono ?_
        rintro e x7 ⟨rfl, h7, k7⟩
        have HO7 := hide h7
        have HR7 := hide ((unhide HR1).keep k7.2)
        have HK7 := hide ((unhide HK1).trans k7)
        have HB7 := hide (blk_keep k7.2 (unhide HB1) (unhide hne) (by decide))
        have Hp7 : Hid ((outP P [pcM L (257 + f)]).2 ≤ 80100) := by
          show _ ≤ _
          have h1 := outP_bits P [pcM L (257 + f)] (fun x hx => by simp only [List.mem_cons, List.not_mem_nil, or_false] at hx; subst hx; have := ((unhide HgL) (257 + f) (by rw [unhide Hn]; exact (unhide hf2).1)).1.2; show L.getD _ 0 ≤ 16; omega)
          have h2 := unhide Hbits
          simp only [List.length_cons, List.length_nil] at h1
          omega
        have HS7 : Hid (∀ W, Keep5 b x7 W → W.cell? ⟨wr.heap.size, 1, none⟩ = some (.int .i64 (y : Nat)) ∧ W.cell? ⟨gl, ol + f, none⟩ = some (.int .i64 (E.1 : Nat))) := by
          intro W hW
          refine ⟨blk_cell (blk_keep hW (unhide HB7) (unhide hne) (by decide)) 1, ?_⟩
          obtain ⟨g', o', e', _, hcc⟩ := irow_cell ((unhide HR7).2.2.1.1.keep hW) (k := f) (by rw [longB_len]; exact unhide hf28)
          simp only [Option.some.injEq, Addr.mk.injEq, and_true] at e'
          obtain ⟨rfl, rfl⟩ := e'
          rw [unhide At1] at hcc
          exact hcc
        have HPT := hide (fun W (hW : OutQ W b (outP P [pcM L (257 + f)])) => putP_any b (outP P [pcM L (257 + f)]) ((y : Int) - (E.1 : Int)) (E.2 : Nat) W hW (unhide Eok1) (by have := unhide Hp7; omega))
        clear h7 k7 HSy HO1 HR1 HK1 HB1
        go_wp2_with fail
        have hD7 : Below x7.heap.size x7 x7.drew := (Below.refl _ x7).drew
        go_cut [] (fun wx => OutQ wx b (outP (outP P [pcM L (257 + f)]) [((y : Int) - (E.1 : Int), (E.2 : Nat))]) ∧ KB b x7 wx)
        case first =>
          refine wp_region_held_drew (S := fun W => W.cell? ⟨wr.heap.size, 1, none⟩ = some (.int .i64 (y : Nat)) ∧ W.cell? ⟨gl, ol + f, none⟩ = some (.int .i64 (E.1 : Nat))) hmix (unhide HS7 _ (keep_below hD7)) (fun hS => ?_)
          refine wpAnyH_take (i := 0) (v := .pointer (some ⟨b, 0, none⟩)) rfl (by kernel_rfl) (by kernel_rfl) (by kernel_rfl) (fun _ _ _ h => h) (Or.inl ⟨by rfl, ?_⟩) hS ?_
          · intro W hSw
            obtain ⟨s0, s1⟩ := hSw
            go_simp
          refine wpAnyH_take (i := 1) (v := .pointer (some ⟨wr.heap.size, 1, none⟩)) rfl (by kernel_rfl) (by kernel_rfl) (by kernel_rfl) (fun _ _ _ h => h) (Or.inl ⟨by rfl, ?_⟩) hS ?_
          · intro W hSw
            obtain ⟨s0, s1⟩ := hSw
            go_simp
          refine wpAnyH_take (i := 2) (v := .int .i64 (y : Nat)) rfl (by kernel_rfl) (by kernel_rfl) (by kernel_rfl) (fun _ _ _ h => h) (Or.inl ⟨by rfl, ?_⟩) hS ?_
          · intro W hSw
            obtain ⟨s0, s1⟩ := hSw
            go_simp
          refine wpAnyH_take (i := 3) (v := .slice (some ⟨gl, ol, none⟩) 28 c4) rfl (by kernel_rfl) (by kernel_rfl) (by kernel_rfl) (fun _ _ _ h => h) (Or.inl ⟨by rfl, ?_⟩) hS ?_
          · intro W hSw
            obtain ⟨s0, s1⟩ := hSw
            go_simp
          refine wpAnyH_take (i := 4) (v := .int .i64 (f : Nat)) rfl (by kernel_rfl) (by kernel_rfl) (by kernel_rfl) (fun _ _ _ h => h) (Or.inl ⟨by rfl, ?_⟩) hS ?_
          · intro W hSw
            obtain ⟨s0, s1⟩ := hSw
            go_simp
          refine wpAnyH_take (i := 5) (v := .pointer (some ⟨gl, ol + f, none⟩)) rfl (by kernel_rfl) (by kernel_rfl) (by kernel_rfl) (fun _ _ _ h => h) (Or.inl ⟨by rfl, ?_⟩) hS ?_
          · intro W hSw
            obtain ⟨s0, s1⟩ := hSw
            go_simp
          refine wpAnyH_take (i := 6) (v := .int .i64 (E.1 : Nat)) rfl (by kernel_rfl) (by kernel_rfl) (by kernel_rfl) (fun _ _ _ h => h) (Or.inl ⟨by rfl, ?_⟩) hS ?_
          · intro W hSw
            obtain ⟨s0, s1⟩ := hSw
            go_simp
          refine wpAnyH_take (i := 7) (v := .int .i64 ((y : Int) - (E.1 : Int))) rfl (by kernel_rfl) (by kernel_rfl) (by kernel_rfl) (fun _ _ _ h => h) (Or.inl ⟨by rfl, ?_⟩) hS ?_
          · intro W hSw
            obtain ⟨s0, s1⟩ := hSw
            go_simp
          refine wpAnyH_take (i := 9) (v := .int .i64 (f : Nat)) rfl (by kernel_rfl) (by kernel_rfl) (by kernel_rfl) (fun _ _ _ h => h) (Or.inl ⟨by rfl, ?_⟩) hS ?_
          · intro W hSw
            obtain ⟨s0, s1⟩ := hSw
            go_simp
          refine wpAnyH_ready (rs := [8]) (by kernel_rfl) (by simp) ?_
          refine AllReadyH.cons rfl (fun Kk hKk => ?_) AllReadyH.nil
          go_simp
          go_at_call 63
          refine (longBits_v _).mono ?_
          rintro e x8 ⟨⟨g8, rfl, o8⟩, b8⟩
          have hb8 : Below x7.heap.size x7 x8 := bnext hD7 b8
          have hc8 := (o8.at rfl (unhide hf28)).1
          rw [unhide Bt1] at hc8
          have HO8 := hide (Out.kept (unhide HO7) hb8)
          clear o8 b8
          refine Shut.out hKk _ _ (unhide HS7 _ (keep_below hb8)) (fun hS2 => ?_)
          clear hKk Kk
          refine wpAnyH_ready (rs := [10]) (by kernel_rfl) (by simp) ?_
          refine AllReadyH.cons rfl (fun Kk hKk => ?_) AllReadyH.nil
          go_simp
          refine Shut.out hKk _ _ (unhide HS7 _ (keep_below hb8)) (fun _ => ?_)
          clear hKk Kk
          refine wpAnyH_ready (rs := [11]) (by kernel_rfl) (by simp) ?_
          refine AllReadyH.cons rfl (fun Kk hKk => ?_) AllReadyH.nil
          go_simp
          refine Shut.out hKk _ _ (unhide HS7 _ (keep_below hb8)) (fun _ => ?_)
          clear hKk Kk
          refine wpAnyH_ready (rs := [12]) (by kernel_rfl) (by simp) ?_
          refine AllReadyH.cons rfl (fun Kk hKk => ?_) AllReadyH.nil
          go_simp
          go_at_call 29
          refine (unhide HPT _ (unhide HO8)).mono ?_
          rintro e x9 ⟨rfl, h9, k9⟩
          have HX9 := hide (And.intro h9 (((KB.refl b x7).below hb8 (Nat.le_of_lt (Out.lt (unhide HO7)))).trans k9))
          refine Shut.out hKk _ _ (unhide HS7 _ ((keep_below hb8).trans k9.2)) (fun _ => ?_)
          clear hKk Kk h9 k9
          refine wpAnyH_done (by kernel_rfl) ?_ _
          go_wp2_with fail
          go_meet
          case rel => exact unhide HX9
        case rest =>
          obtain ⟨ho9, hk9⟩ := hcut
          have HO9 := hide ho9
          have HR9 := hide ((unhide HR7).keep hk9.2)
          have HK9 := hide ((unhide HK7).trans hk9)
          have HB9 := hide (blk_keep hk9.2 (unhide HB7) (unhide hne) (by decide))
          have Hp9 : Hid ((outP (outP P [pcM L (257 + f)]) [((y : Int) - (E.1 : Int), ((E.2 : Nat) : Int))]).2 ≤ 80200) := by
            show _ ≤ _
            have h1 := outP_bits (outP P [pcM L (257 + f)]) [((y : Int) - (E.1 : Int), ((E.2 : Nat) : Int))] (fun x hx => by simp only [List.mem_cons, List.not_mem_nil, or_false] at hx; subst hx; exact (pOk_true.1 (unhide Eok1)).1.2)
            have h2 := unhide Hp7
            simp only [List.length_cons, List.length_nil] at h1
            omega
          have HE : Hid (∀ r, outP P (pcM L (257 + f) :: ((y : Int) - (E.1 : Int), ((E.2 : Nat) : Int)) :: r) = outP (outP (outP P [pcM L (257 + f)]) [((y : Int) - (E.1 : Int), ((E.2 : Nat) : Int))]) r) := fun r => by
            show outP P _ = _
            rw [← outP_append, ← outP_append]; rfl
          generalize outP (outP P [pcM L (257 + f)]) [((y : Int) - (E.1 : Int), ((E.2 : Nat) : Int))] = P2 at *
          have hc2b := blk_cell (unhide HB9) 2
          simp at hc2b
          clear ho9 hk9 HO7 HR7 HK7 HB7 HS7 HPT hD7
          go_wp2_with fail
          refine (unhide HKs _ (unhide HR9).2.2.1.2).mono ?_
          rintro e w7 ⟨rfl, hw7⟩
          rw [hw7]
          clear hw7
          have HSy := hide (sym_any b P2 a2 (some ⟨g2, 0, none⟩) cap2 n2 n2 f' D _ (unhide HO9) (unhide Hn2) (unhide HR9).1.2.1 (unhide HR9).2.1.2.1 (unhide hf2).2 (unhide Hn4) ((unhide HgD) _ (by rw [unhide Hn2]; exact (unhide hf2).2)).1 ((unhide HgD) _ (by rw [unhide Hn2]; exact (unhide hf2).2)).2 (by have := unhide Hp9; omega))
          go_wp2_with fail
          refine (unhide HSy).mono ?_
          rintro e xa ⟨rfl, ha, ka⟩
          have HOa := hide ha
          have HRa := hide ((unhide HR9).keep ka.2)
          have HKa := hide ((unhide HK9).trans ka)
          have HBa := hide (blk_keep ka.2 (unhide HB9) (unhide hne) (by decide))
          have Hpa : Hid ((outP P2 [pcM D f']).2 ≤ 80300) := by
            show _ ≤ _
            have h1 := outP_bits P2 [pcM D f'] (fun x hx => by simp only [List.mem_cons, List.not_mem_nil, or_false] at hx; subst hx; have := ((unhide HgD) f' (by rw [unhide Hn2]; exact (unhide hf2).2)).1.2; show D.getD _ 0 ≤ 16; omega)
            have h2 := unhide Hp9
            simp only [List.length_cons, List.length_nil] at h1
            omega
          have HSa : Hid (∀ W, Keep5 b xa W → W.cell? ⟨wr.heap.size, 2, none⟩ = some (.int .i64 (z : Nat)) ∧ W.cell? ⟨gk, ok + f', none⟩ = some (.int .i64 (E'.1 : Nat))) := by
            intro W hW
            refine ⟨blk_cell (blk_keep hW (unhide HBa) (unhide hne) (by decide)) 2, ?_⟩
            obtain ⟨g', o', e', _, hcc⟩ := irow_cell ((unhide HRa).2.2.1.2.keep hW) (k := f') (by rw [backB_len]; exact unhide hf30)
            simp only [Option.some.injEq, Addr.mk.injEq, and_true] at e'
            obtain ⟨rfl, rfl⟩ := e'
            rw [unhide At2] at hcc
            exact hcc
          have HPTa := hide (fun W (hW : OutQ W b (outP P2 [pcM D f'])) => putP_any b (outP P2 [pcM D f']) ((z : Int) - (E'.1 : Int)) (E'.2 : Nat) W hW (unhide Eok2) (by have := unhide Hpa; omega))
          have HFin : Hid (outP (outP P2 [pcM D f']) [((z : Int) - (E'.1 : Int), ((E'.2 : Nat) : Int))] = outP P2 [pcM D f', ((z : Int) - (E'.1 : Int), ((E'.2 : Nat) : Int))]) := (outP_append P2 [pcM D f'] _).symm
          clear ha ka HSy HO9 HR9 HK9 HB9 hc2b
          go_wp2_with fail
          have hDa : Below xa.heap.size xa xa.drew := (Below.refl _ xa).drew
          refine wp_region_held_drew (S := fun W => W.cell? ⟨wr.heap.size, 2, none⟩ = some (.int .i64 (z : Nat)) ∧ W.cell? ⟨gk, ok + f', none⟩ = some (.int .i64 (E'.1 : Nat))) hmix (unhide HSa _ (keep_below hDa)) (fun hS => ?_)
          refine wpAnyH_take (i := 0) (v := .pointer (some ⟨b, 0, none⟩)) rfl (by kernel_rfl) (by kernel_rfl) (by kernel_rfl) (fun _ _ _ h => h) (Or.inl ⟨by rfl, ?_⟩) hS ?_
          · intro W hSw
            obtain ⟨s0, s1⟩ := hSw
            go_simp
          refine wpAnyH_take (i := 1) (v := .pointer (some ⟨wr.heap.size, 2, none⟩)) rfl (by kernel_rfl) (by kernel_rfl) (by kernel_rfl) (fun _ _ _ h => h) (Or.inl ⟨by rfl, ?_⟩) hS ?_
          · intro W hSw
            obtain ⟨s0, s1⟩ := hSw
            go_simp
          refine wpAnyH_take (i := 2) (v := .int .i64 (z : Nat)) rfl (by kernel_rfl) (by kernel_rfl) (by kernel_rfl) (fun _ _ _ h => h) (Or.inl ⟨by rfl, ?_⟩) hS ?_
          · intro W hSw
            obtain ⟨s0, s1⟩ := hSw
            go_simp
          refine wpAnyH_take (i := 3) (v := .slice (some ⟨gk, ok, none⟩) 30 c6) rfl (by kernel_rfl) (by kernel_rfl) (by kernel_rfl) (fun _ _ _ h => h) (Or.inl ⟨by rfl, ?_⟩) hS ?_
          · intro W hSw
            obtain ⟨s0, s1⟩ := hSw
            go_simp
          refine wpAnyH_take (i := 4) (v := .int .i64 (f' : Nat)) rfl (by kernel_rfl) (by kernel_rfl) (by kernel_rfl) (fun _ _ _ h => h) (Or.inl ⟨by rfl, ?_⟩) hS ?_
          · intro W hSw
            obtain ⟨s0, s1⟩ := hSw
            go_simp
          refine wpAnyH_take (i := 5) (v := .pointer (some ⟨gk, ok + f', none⟩)) rfl (by kernel_rfl) (by kernel_rfl) (by kernel_rfl) (fun _ _ _ h => h) (Or.inl ⟨by rfl, ?_⟩) hS ?_
          · intro W hSw
            obtain ⟨s0, s1⟩ := hSw
            go_simp
          refine wpAnyH_take (i := 6) (v := .int .i64 (E'.1 : Nat)) rfl (by kernel_rfl) (by kernel_rfl) (by kernel_rfl) (fun _ _ _ h => h) (Or.inl ⟨by rfl, ?_⟩) hS ?_
          · intro W hSw
            obtain ⟨s0, s1⟩ := hSw
            go_simp
          refine wpAnyH_take (i := 7) (v := .int .i64 ((z : Int) - (E'.1 : Int))) rfl (by kernel_rfl) (by kernel_rfl) (by kernel_rfl) (fun _ _ _ h => h) (Or.inl ⟨by rfl, ?_⟩) hS ?_
          · intro W hSw
            obtain ⟨s0, s1⟩ := hSw
            go_simp
          refine wpAnyH_take (i := 9) (v := .int .i64 (f' : Nat)) rfl (by kernel_rfl) (by kernel_rfl) (by kernel_rfl) (fun _ _ _ h => h) (Or.inl ⟨by rfl, ?_⟩) hS ?_
          · intro W hSw
            obtain ⟨s0, s1⟩ := hSw
            go_simp
          refine wpAnyH_ready (rs := [8]) (by kernel_rfl) (by simp) ?_
          refine AllReadyH.cons rfl (fun Kk hKk => ?_) AllReadyH.nil
          go_simp
          go_at_call 64
          refine (backBits_v _).mono ?_
          rintro e x8 ⟨⟨g8, rfl, o8⟩, b8⟩
          have hb8 : Below xa.heap.size xa x8 := bnext hDa b8
          have hc8 := (o8.at rfl (unhide hf30)).1
          rw [unhide Bt2] at hc8
          have HO8 := hide (Out.kept (unhide HOa) hb8)
          clear o8 b8
          refine Shut.out hKk _ _ (unhide HSa _ (keep_below hb8)) (fun hS2 => ?_)
          clear hKk Kk
          refine wpAnyH_ready (rs := [10]) (by kernel_rfl) (by simp) ?_
          refine AllReadyH.cons rfl (fun Kk hKk => ?_) AllReadyH.nil
          go_simp
          refine Shut.out hKk _ _ (unhide HSa _ (keep_below hb8)) (fun _ => ?_)
          clear hKk Kk
          refine wpAnyH_ready (rs := [11]) (by kernel_rfl) (by simp) ?_
          refine AllReadyH.cons rfl (fun Kk hKk => ?_) AllReadyH.nil
          go_simp
          refine Shut.out hKk _ _ (unhide HSa _ (keep_below hb8)) (fun _ => ?_)
          clear hKk Kk
          refine wpAnyH_ready (rs := [12]) (by kernel_rfl) (by simp) ?_
          refine AllReadyH.cons rfl (fun Kk hKk => ?_) AllReadyH.nil
          go_simp
          go_at_call 29
          refine (unhide HPTa _ (unhide HO8)).mono ?_
          rintro e x9 ⟨rfl, h9, k9⟩
          have HX9 := hide (And.intro h9 (((KB.refl b xa).below hb8 (Nat.le_of_lt (Out.lt (unhide HOa)))).trans k9))
          refine Shut.out hKk _ _ (unhide HSa _ ((keep_below hb8).trans k9.2)) (fun _ => ?_)
          clear hKk Kk h9 k9
          refine wpAnyH_done (by kernel_rfl) ?_ _
          have HX := hide (And.intro (unhide HX9).1 (And.intro ((unhide HRa).keep (unhide HX9).2.2) ((unhide HKa).trans (unhide HX9).2)))
          clear HX9
          go_wp2
          go_roundw
          case rel => exact ⟨k + 1, by omega, by go_num, by rw [unhide HPE, unhide HPc, unhide HE, ← unhide HFin]; exact (unhide HX).1, (unhide HX).2.1, (unhide HX).2.2⟩
          case measure => simp [intOf]; omega
      · obtain ⟨q1, q2⟩ := isB_bd hB
        have hfB : Hid (t.1.toNat < n) := by
          have := hfit
          unfold fitsT at this
          rw [if_pos hB, unhide Hn] at this
          exact this
        have HPc : Hid (pcTM L D t = [pcM L t.1.toNat]) := by show pcTM L D t = _; unfold pcTM; rw [if_pos hB]
        have hz0 : t.2.1 = 0 := by unfold isB at hB; simp only [Bool.and_eq_true, decide_eq_true_eq] at hB; exact hB.1
        have hx : t.1 = ((t.1.toNat : Nat) : Int) := by omega
        have HSy := hide (sym_any b P a (some ⟨g1, 0, none⟩) cap n n t.1.toNat L _ (unhide HO1) (unhide Hn) (unhide HR1).1.1.1 (unhide HR1).2.1.1.1 (unhide hfB) (unhide Hn3) ((unhide HgL) _ (by rw [unhide Hn]; exact unhide hfB)).1 ((unhide HgL) _ (by rw [unhide Hn]; exact unhide hfB)).2 (by have := unhide Hbits; omega))
        rw [← hx] at HSy
        generalize t.1.toNat = xN at *
        clear hB hokk hfit hx
        obtain ⟨tx, ty, tz⟩ := t
        simp only at hz0 q1 q2 c0 c1 c2 HSy HR1 HK1
        subst hz0
        go_wp2_with fail
        refine (unhide HSy).mono ?_
        rintro e x7 ⟨rfl, h7, k7⟩
        have HX := hide (And.intro h7 (And.intro ((unhide HR1).keep k7.2) ((unhide HK1).trans k7)))
        clear h7 k7 HSy
        go_wp2
        go_roundw
        case rel => exact ⟨k + 1, by omega, by go_num, by rw [unhide HPE, unhide HPc]; exact (unhide HX).1, (unhide HX).2.1, (unhide HX).2.2⟩
        case measure => simp [intOf]; omega
    · obtain rfl : k = tn := by have := unhide HK; omega
      have HPE : Hid (outP p (T.flatMap (pcTM L D) ++ [pcM L 256]) = outP (outP p ((T.take k).flatMap (pcTM L D))) [pcM L 256]) := by
        show outP p _ = _
        rw [List.take_of_length_le (by rw [unhide Htn]; exact Nat.le_refl _), outP_append]
      have Hbits : Hid ((outP p ((T.take k).flatMap (pcTM L D))).2 ≤ 80000) := by
        show _ ≤ _
        have h1 := flatM_bits L D (T.take k) p (unhide HgL) (unhide HgD) (fun t ht => (unhide Hok t (List.mem_of_mem_take ht)).2)
        have h2 : (T.take k).length ≤ k := List.length_take_le _ _
        have h3 := unhide Hp
        omega
      generalize outP p ((T.take k).flatMap (pcTM L D)) = P at *
      have HSy := hide (sym_any b P a (some ⟨g1, 0, none⟩) cap n n 256 L _ (unhide HO) (unhide Hn) (unhide HRR).1.1.1 (unhide HRR).2.1.1.1 (unhide H256) (unhide Hn3) ((unhide HgL) _ (by rw [unhide Hn]; exact unhide H256)).1 ((unhide HgL) _ (by rw [unhide Hn]; exact unhide H256)).2 (by have := unhide Hbits; omega))
      go_wp2_with fail
      refine (unhide HSy).mono ?_
      rintro e x7 ⟨rfl, h7, k7⟩
      have HX := hide (And.intro h7 ((unhide HKB).trans k7))
      clear h7 k7 HSy
      go_wp2
      go_end0
      exact ⟨rfl, by rw [unhide HPE]; exact (unhide HX).1, (unhide HX).2⟩

end Go.Proofs.YtpmidjddjdejmaaDoor
/- A text by codes that all know: the model's FixedPut, the program's, the walk of the exact law. -/
namespace Go.Proofs.YtpmidjddjdejmaaDoor
open Go.RowKit Corb

theorem code_ok {l : List Int} (h : lensOk l = true) {k : Nat} (hk : k < l.length) : pOk ((outN l 15).2.getD k 0) (l.getD k 0) = true := by
  have hb := inL_bd (lensOk_in h) hk
  rw [codes_get h hk]
  by_cases h1 : 1 ≤ l.getD k 0
  · rw [if_pos h1]
    have := (codeAt_lt h hk h1).1
    exact pOk_true.2 ⟨⟨hb.1, by omega⟩, by omega, by omega⟩
  · rw [if_neg h1]
    have e : l.getD k 0 = 0 := by omega
    rw [e]
    decide
theorem good_of {l : List Int} (h : lensOk l = true) : goodL l := by
  intro k hk
  have hb := inL_bd (lensOk_in h) hk
  obtain ⟨_, c0, c1⟩ := pOk_true.1 (code_ok h hk)
  refine ⟨hb, c0, ?_⟩
  have h1 : p2 (l.getD k 0).toNat ≤ p2 15 := Nat.pow_le_pow_right (by omega) (by omega)
  have h2 : p2 15 = 32768 := by decide
  omega
theorem pcS_pcM {l : List Int} (h : lensOk l = true) {k : Nat} (hk : k < l.length) : pcS l k = pcM l k := by
  unfold pcS pcM
  rw [btI_yes (code_ok h hk)]
theorem pcT_pcTM {L D : List Int} (hL : lensOk L = true) (hD : lensOk D = true) {t : Tk} (hf : fitsT L D t) : pcT L D t = pcTM L D t := by
  unfold pcT pcTM
  unfold fitsT at hf
  split
  · rename_i h
    rw [if_pos h] at hf
    rw [pcS_pcM hL hf]
  · rename_i h
    rw [if_neg h] at hf
    rw [pcS_pcM hL hf.1, pcS_pcM hD hf.2]
theorem flatPc_same {L D : List Int} (hL : lensOk L = true) (hD : lensOk D = true) (T : List Tk) (hf : ∀ t ∈ T, fitsT L D t) : T.flatMap (pcT L D) = T.flatMap (pcTM L D) := by
  induction T with
  | nil => rfl
  | cons t r ih => rw [List.flatMap_cons, List.flatMap_cons, pcT_pcTM hL hD (hf t (by simp)), ih (fun x hx => hf x (by simp [hx]))]
theorem pcTM_ok {L D : List Int} (gL : goodL L) (gD : goodL D) {t : Tk} (hk : okT t = true) (hf : fitsT L D t) : allOk (pcTM L D t) = true := by
  unfold pcTM
  unfold fitsT at hf
  unfold allOk
  split
  · rename_i h
    rw [if_pos h] at hf
    simp only [List.all_cons, List.all_nil, Bool.and_true]
    exact pcM_ok (gL _ hf).1
  · rename_i h
    rw [if_neg h] at hf
    have hK : isK t = true := by unfold okT at hk; simp only [Bool.or_eq_true] at hk; rcases hk with h' | h'; exact absurd h' h; exact h'
    obtain ⟨y0, y1, z0, z1⟩ := isK_bd hK
    simp only [List.all_cons, List.all_nil, Bool.and_true, Bool.and_eq_true]
    exact ⟨pcM_ok (gL _ hf.1).1, stF_long _ (by omega) (by omega), pcM_ok (gD _ hf.2).1, stF_back _ (by omega) (by omega)⟩
theorem flatM_ok {L D : List Int} (gL : goodL L) (gD : goodL D) (T : List Tk) (h : ∀ t ∈ T, okT t = true ∧ fitsT L D t) : allOk (T.flatMap (pcTM L D)) = true ∧ (T.flatMap (pcTM L D)).length ≤ 4 * T.length := by
  induction T with
  | nil => exact ⟨rfl, by simp⟩
  | cons t r ih =>
    obtain ⟨h1, h2⟩ := ih (fun x hx => h x (by simp [hx]))
    obtain ⟨h3, h4⟩ := h t (by simp)
    have h5 := (pcTM_bits L D t gL gD h4).2
    refine ⟨?_, by simp only [List.flatMap_cons, List.length_append, List.length_cons]; omega⟩
    have h6 := pcTM_ok gL gD h3 h4
    unfold allOk at *
    rw [List.flatMap_cons, List.all_append, h6, h1]; rfl
theorem toksP_okT (L : List UInt8) : ∀ n p, L.length - p ≤ n → ∀ t ∈ toksP L p, okT t = true := by
  intro n
  induction n with
  | zero =>
    intro p hp t ht
    rw [toksP_end (by omega)] at ht
    cases ht
  | succ n ih =>
    intro p hp t ht
    by_cases h : p < L.length
    · rw [toksP_step h] at ht
      rcases List.mem_cons.1 ht with rfl | ht
      · exact tokP_ok L p
      · exact ih (p + sizP L p) (by have := (sizP_pos L p).1; omega) t ht
    · rw [toksP_end h] at ht
      cases ht
theorem toks_ok (s : ByteArray) : ∀ t ∈ toksP s.data.toList 0, okT t = true := toksP_okT s.data.toList s.data.toList.length 0 (by omega)

/-- The codes that all know. -/
def knowD : List Int := List.replicate 32 5
theorem know_okL : lensOk (fixL 288) = true := by decide +kernel
theorem know_okD : lensOk knowD = true := by decide +kernel
theorem know_fits {t : Tk} (_ : okT t = true) : fitsT (fixL 288) knowD t := by
  unfold fitsT
  split
  · rename_i hB
    have := isB_bd hB
    rw [fixL_len]; omega
  · have h1 := fnd_le 3 4 t.2.1.toNat 27
    have h2 := fnd_le 1 2 t.2.2.toNat 29
    rw [fixL_len]
    exact ⟨by omega, by show _ < (List.replicate 32 (5 : Int)).length; rw [List.length_replicate]; omega⟩
/-- The pieces of a text by them. -/
def fixP (s : ByteArray) : List (Int × Int) := [(1, 1), (1, 2)] ++ ((toksP s.data.toList 0).flatMap (pcTM (fixL 288) knowD) ++ [pcM (fixL 288) 256])
theorem toks_len (s : ByteArray) (hs : s.size ≤ 300) : (toksP s.data.toList 0).length ≤ 300 := by
  have h2 := toksP_len s.data.toList s.data.toList.length 0 (by omega)
  have h3 : s.data.toList.length = s.size := by simp
  omega
theorem fixP_ok (s : ByteArray) (hs : s.size ≤ 300) : lOk (fixP s) = true := by
  obtain ⟨h1, h2⟩ := flatM_ok (good_of know_okL) (good_of know_okD) (toksP s.data.toList 0) (fun t ht => ⟨toks_ok s t ht, know_fits (toks_ok s t ht)⟩)
  have h3 := toks_len s hs
  have h4 : pOk (pcM (fixL 288) 256).1 (pcM (fixL 288) 256).2 = true := pcM_ok (good_of know_okL 256 (by rw [fixL_len]; omega)).1
  unfold lOk
  have h5 : allOk (fixP s) = true := by
    unfold fixP
    unfold allOk at *
    rw [List.all_append, List.all_append, h1]
    simp only [List.all_cons, List.all_nil, h4]
    decide
  have h6 : (fixP s).length ≤ 4000 := by unfold fixP; simp only [List.length_append, List.length_cons, List.length_nil]; omega
  rw [h5]; simpa using h6
/-- A text that is packed so. -/
def knownL (s : ByteArray) : List UInt8 := textP (fixP s)

set_option maxHeartbeats 1600000 in
theorem l5Known_any (s : ByteArray) (w : World) (hs : s.size ≤ 300) :
    Calls Tryd.prog 23 #[.string s] w fun e w' => e = .returned (.string ⟨(knownL s).toArray⟩) ∧ Below w.heap.size w w' := by
  have h0 : Hid (OutQ (w.alloc (.cells #[.slice none 0 0, .int .i64 0, .int .i64 0] 68)) w.heap.size (0, 0)) := out_new w 68
  have hB0 : Hid (KB w.heap.size w (w.alloc (.cells #[.slice none 0 0, .int .i64 0, .int .i64 0] 68))) := (KB.refl _ _).below ((Below.refl _ _).alloc (Nat.le_refl _) _) (Nat.le_refl _)
  have HS := hide hs
  have HV : Hid (outP (outP (outP (0, 0) [(1, 1)]) [(1, 2)]) ((toksP s.data.toList 0).flatMap (pcTM (fixL 288) knowD) ++ [pcM (fixL 288) 256]) = valP (fixP s)) := by
    show outP _ _ = _
    rw [← outP_append, ← outP_append]; rfl
  have Hm : Hid ((valP (fixP s)).2 ≤ 90000) := by
    show _ ≤ _
    rw [← unhide HV, outP_append]
    have h1 := flatM_bits (fixL 288) knowD (toksP s.data.toList 0) (outP (outP (0, 0) [(1, 1)]) [(1, 2)]) (good_of know_okL) (good_of know_okD) (fun t ht => know_fits (toks_ok s t ht))
    have h2 := outP_bits (outP (outP (outP (0, 0) [(1, 1)]) [(1, 2)]) ((toksP s.data.toList 0).flatMap (pcTM (fixL 288) knowD))) [pcM (fixL 288) 256] (fun x hx => by simp only [List.mem_cons, List.not_mem_nil, or_false] at hx; subst hx; have := (good_of know_okL 256 (by rw [fixL_len]; omega)).1.2; show (fixL 288).getD 256 0 ≤ 16; omega)
    have h3 := toks_len s hs
    have h4 : (outP (outP (0, 0) [(1, 1)]) [(1, 2)]).2 = 3 := rfl
    simp only [List.length_cons, List.length_nil] at h2
    omega
  clear hs
  go_enter Tryd.func23, Tryd.ntmps23
  go_wp2_with fail
  refine (putP_any _ _ 1 1 _ (unhide h0) (by decide) (by show (0 : Nat) ≤ _; omega)).mono ?_
  rintro e x1 ⟨rfl, o1, k1⟩
  have H1 := hide (And.intro o1 ((unhide hB0).trans k1))
  clear o1 k1 h0 hB0
  go_wp2_with fail
  refine (putP_any _ _ 1 2 _ (unhide H1).1 (by decide) (by show (1 : Nat) ≤ _; omega)).mono ?_
  rintro e x2 ⟨rfl, o2, k2⟩
  have H2 := hide (And.intro o2 ((unhide H1).2.trans k2))
  have hl2 : Hid (w.heap.size < x2.heap.size) := Out.lt o2
  clear o2 k2 H1
  go_wp2_with fail
  refine (l4Tokens_any s _ (by have := unhide HS; omega)).mono ?_
  rintro e x3 ⟨v3, rfl, o3, b3⟩
  obtain ⟨tn, htn⟩ : ∃ tn, (toksP s.data.toList 0).length = tn := ⟨_, rfl⟩
  obtain ⟨a3, c3, rfl⟩ := o3.formN htn
  have N3 := hide (kown_nrow htn o3 (unhide hl2))
  have B3 := hide b3
  clear o3 b3
  go_wp2_with fail
  refine (l5Fixed_any _).mono ?_
  rintro e x4 ⟨v4, rfl, o4, b4⟩
  obtain ⟨a4, c4, rfl⟩ := o4.formN (fixL_len 288)
  have N4 := hide (iown_nrow (fixL_len 288) o4 (Nat.lt_of_lt_of_le (unhide hl2) (unhide B3).size))
  have N3' := hide ((unhide N3).keep (keep_below b4))
  have B4 := hide (bnext (unhide B3) b4)
  clear o4 b4 N3 B3
  go_wp2_with fail
  refine (l5Fives_any _).mono ?_
  rintro e x5 ⟨v5, rfl, o5, b5⟩
  have hn5 : (List.replicate 32 (5 : Int)).length = 32 := List.length_replicate
  obtain ⟨a5, c5, rfl⟩ := o5.formN hn5
  have N5 := hide (iown_nrow hn5 o5 (Nat.lt_of_lt_of_le (unhide hl2) (unhide B4).size))
  have N3 := hide ((unhide N3').keep (keep_below b5))
  have N4' := hide ((unhide N4).below b5)
  have B5 := hide (bnext (unhide B4) b5)
  have O5 := hide (Out.kept (unhide H2).1 (unhide B5))
  have K5 := hide ((unhide H2).2.below (unhide B5) (Nat.le_of_lt (unhide hl2)))
  have htI : Hid ((tn : Int) ≤ 300) := by show (tn : Int) ≤ 300; have := toks_len s (unhide HS); omega
  have HTk := hide (tokensM_any w.heap.size (outP (outP (0, 0) [(1, 1)]) [(1, 2)]) a3 a4 a5 c3 tn c4 288 c5 32 (toksP s.data.toList 0) (fixL 288) knowD x5 (unhide O5) (unhide N3) (unhide N4') (unhide N5) htn (fixL_len 288) hn5 (by omega) (by omega) (good_of know_okL) (good_of know_okD) (by omega) (unhide htI) (by show (3 : Nat) ≤ 10000; omega) (fun t ht => ⟨toks_ok s t ht, know_fits (toks_ok s t ht)⟩))
  rw [unhide HV] at HTk
  clear o5 b5 N3' N4 N5 B4 hn5 htn
  go_wp2_with fail
  refine (unhide HTk).mono ?_
  rintro e x6 ⟨rfl, o6, k6⟩
  have K6 := hide ((unhide K5).trans k6).1
  have O6 := hide o6
  clear o6 k6 HTk N3 N4' O5 K5 B5 H2
  go_wp2_with fail
  refine (wholeOut_any _ _ _ _ (unhide O6) (unhide Hm)).mono ?_
  rintro e x7 ⟨rfl, h7, b7⟩
  obtain ⟨_, v, T, Y⟩ := h7
  have e8 : 8 * (((valP (fixP s)).2 + 7) / 8) / 8 = ((valP (fixP s)).2 + 7) / 8 := by omega
  rw [e8] at Y
  have Y' : Bys x7 w.heap.size v (knownL s) := Y
  have hcv := conv_bytes Y'
  have HB := hide ((unhide K6).trans b7)
  obtain ⟨k0, k1, k2, f0, f1, f2, hbw⟩ := T
  clear Y Y' e8 k1 k2 b7 O6
  generalize hR : knownL s = R at *
  have HR := hide hR
  clear hR
  go_wp2
  go_ret
  exact ⟨by rw [unhide HR]; rfl, unhide HB⟩
/-- What FixedPut answers. -/
def fixedL (s : ByteArray) : List UInt8 := if s.size ≤ 300 then knownL s else []
theorem specFixedPut_any (s : ByteArray) (w : World) (hs : s.size ≤ 1048576) :
    Calls Tryd.prog 14 #[.string s] w fun e w' => e = .returned (.string ⟨(fixedL s).toArray⟩) ∧ Below w.heap.size w w' := by
  have hsI : (s.size : Int) ≤ 1048576 := by omega
  by_cases h : s.size ≤ 300
  · have hI : ¬ (300 : Int) < (s.size : Int) := by omega
    have HF : Hid (fixedL s = knownL s) := if_pos h
    have HK := hide (fun W => l5Known_any s W h)
    clear h
    go_enter Tryd.func14, Tryd.ntmps14
    go_wp2_with fail
    refine (unhide HK _).mono ?_
    rintro e x1 ⟨rfl, hb1⟩
    generalize hR : knownL s = R at *
    have HR := hide hR
    clear hR
    go_wp2
    go_ret
    exact ⟨by rw [unhide HF]; rfl, hb1⟩
  · have hI : (300 : Int) < (s.size : Int) := by omega
    have HF : Hid (fixedL s = []) := if_neg h
    clear h
    go_enter Tryd.func14, Tryd.ntmps14
    go_wp2
    go_ret
    exact ⟨by rw [unhide HF]; rfl, Below.refl _ _⟩
theorem fixP_same (s : ByteArray) : [(1, 1), (1, 2)] ++ ((toksP s.data.toList 0).flatMap (pcT (fixL 288) knowD) ++ [pcS (fixL 288) 256]) = fixP s := by
  unfold fixP
  rw [flatPc_same know_okL know_okD _ (fun t ht => know_fits (toks_ok s t ht)), pcS_pcM know_okL (by rw [fixL_len]; omega)]
theorem pcs_cells {w : World} {base n cap : Nat} {a : Option Addr} {l : List (Int × Int)} (hn : l.length = n) (h : Pcs w base (.slice a n cap) l) (h0 : 0 < n) : ∃ g, a = some ⟨g, 0, none⟩ ∧ ∀ (j : Nat) (u : Value), (pcells l)[j]? = some u → w.cell? ((⟨g, 0, none⟩ : Addr).add j) = some u := by
  rcases h.2 with ⟨_, e⟩ | ⟨g, cap', cur, e, _⟩
  · omega
  · simp only [Value.slice.injEq] at e
    obtain ⟨rfl, _, rfl⟩ := e
    exact ⟨g, rfl, World.ownsRow.cells h rfl⟩
set_option maxHeartbeats 1600000 in
theorem implFixed_any (s : ByteArray) (w : World) (hs : s.size ≤ 300) :
    Calls Tryd.prog 13 #[.string s] w fun e w' => e = .returned (.string ⟨(knownL s).toArray⟩) ∧ Below w.heap.size w w' := by
  obtain ⟨i0, hi, hz0, hz1, hz2⟩ := info_parts Tryd.infoPiece
  have hsI : (s.size : Int) ≤ 300 := by omega
  have hI : ¬ (300 : Int) < (s.size : Int) := by omega
  have hP0 : Hid ((w.alloc (.cells #[.int .i64 1, .int .i64 1, .int .i64 1, .int .i64 2] 36)).ownsRow w.heap.size 36 2 (.slice (some ⟨w.heap.size, 0, none⟩) 2 2) 2 [.int .i64 1, .int .i64 1, .int .i64 1, .int .i64 2]) := World.ownsRow_lit w #[.int .i64 1, .int .i64 1, .int .i64 1, .int .i64 2] 2 (Nat.le_refl _) (by unfold maxLen; omega) rfl
  have hB0 : Hid (Below w.heap.size w (w.alloc (.cells #[.int .i64 1, .int .i64 1, .int .i64 1, .int .i64 2] 36))) := (Below.refl _ _).alloc (Nat.le_refl _) _
  have HS := hide hs
  have HE := hide (fixP_same s)
  have HP : Hid (putS (fixP s) = knownL s) := putS_yes (fixP_ok s hs)
  have HLn : Hid ((fixP s).length ≤ 4000) := by
    have := fixP_ok s hs
    unfold lOk at this
    simp only [Bool.and_eq_true, decide_eq_true_eq] at this
    exact this.2
  clear hs
  go_enter Tryd.func13, Tryd.ntmps13
  go_wp2_with fail
  refine (flateHead_any 1 w).mono ?_
  rintro e x1 ⟨rfl, hx1⟩
  have h1P := hide (show x1.ownsRow w.heap.size 36 2 (.slice (some ⟨w.heap.size, 0, none⟩) 2 2) 2 [.int .i64 1, .int .i64 1, .int .i64 1, .int .i64 2] by rw [hx1]; exact unhide hP0)
  have h1B := hide (show Below w.heap.size w x1 by rw [hx1]; exact unhide hB0)
  clear hx1 hP0 hB0
  go_wp2_with fail
  refine (fixedBooks_any _).mono ?_
  rintro e x2 ⟨⟨C, rfl, hBk⟩, hb2⟩
  have h2P := hide (row_later (unhide h1P) hb2)
  have h2B := hide (bnext (unhide h1B) hb2)
  have HBk := hide hBk
  clear hBk hb2 h1P h1B
  go_wp2_with fail
  refine (putAll_any s _ (fixL 288) knowD C _ (unhide HS) (unhide HBk) (by rw [fixL_len]; omega) (by show (List.replicate 32 (5 : Int)).length ≤ 300; rw [List.length_replicate]; omega) (by rw [fixL_len]; omega) (fun t ht => know_fits (toks_ok s t ht))).mono ?_
  rintro e x3 ⟨v, rfl, hp3, hb3⟩
  have h3P := hide (row_later (unhide h2P) hb3)
  have h3B := hide (bnext (unhide h2B) hb3)
  clear hb3 h2P h2B HBk
  generalize hR : (toksP s.data.toList 0).flatMap (pcT (fixL 288) knowD) ++ [pcS (fixL 288) 256] = R at *
  have hR0 : 0 < R.length := by rw [← hR]; simp
  obtain ⟨m, hm⟩ : ∃ m, R.length = m := ⟨_, rfl⟩
  obtain ⟨va, vc, rfl⟩ : ∃ a cap, v = .slice a m cap := by
    rcases hp3.2 with ⟨_, h0⟩ | ⟨g, cap, _, e, _⟩
    · omega
    · exact ⟨_, cap, by rw [← hm]; exact e⟩
  obtain ⟨g3, rfl, hc3⟩ := pcs_cells hm hp3 (by omega)
  have HC3 := hide hc3
  have Hm := hide hm
  have bd : Hid (2 + m ≤ maxLen ∧ (2 + m) * 16 ≤ 140737488355328) := by
    show _ ∧ _
    have h1 := unhide HLn
    rw [← unhide HE, List.length_append, hm] at h1
    unfold maxLen; simp only [List.length_cons, List.length_nil] at h1; omega
  have hbs := (unhide h3B).size
  clear hR hR0 hp3 hc3 hm
  go_wp2_with (at_builtin; refine wpList_append_own _ rfl _ _ 33 rfl w.heap.size 36 i0 (.agg #[.int .i64 0, .int .i64 0]) 2 16 Tryd.underlying33 hi hz0 hz1 hz2 rfl (by decide) (.slice (some ⟨w.heap.size, 0, none⟩) 2 2) _ _ rfl (unhide h3P) ⟨g3, 0, none⟩ m vc (pcells R) rfl (by rw [pcells_len, unhide Hm]) (unhide HC3) (pcells_one R) (unhide bd).1 (unhide bd).2 hbs ?_; intro v' x4 hown hgrow hnil; clear hnil)
  have hX : ([.int .i64 1, .int .i64 1, .int .i64 1, .int .i64 2] : List Value) ++ pcells R = pcells (fixP s) := by rw [← unhide HE, pcells_append]; rfl
  have hN : 2 + m = (fixP s).length := by rw [← unhide HE, List.length_append, unhide Hm]; rfl
  rw [hX, hN] at hown
  have hP4 : Pcs x4 w.heap.size v' (fixP s) := hown
  obtain ⟨a4, c4, rfl⟩ := hP4.form
  have hb4 : Below w.heap.size w x4 := (unhide h3B).grown hgrow hbs (fun j hj => (World.ownsRow.lt (unhide h3P) j hj).1)
  refine (implBitsPut_any a4 c4 (fixP s) _ hP4.row (by have := unhide HLn; omega)).mono ?_
  rintro e x5 ⟨rfl, hb5⟩
  rw [unhide HP]
  have HB5 := hide (bnext hb4 hb5)
  clear hX hN hown hP4 hb4 hb5 hgrow
  generalize hR : knownL s = Q at *
  have HR := hide hR
  clear hR
  go_wp2
  go_ret
  exact ⟨by rw [unhide HR]; rfl, unhide HB5⟩
theorem implFixedPut_any (s : ByteArray) (w : World) (hs : s.size ≤ 1048576) :
    Calls Tryd.prog 13 #[.string s] w fun e w' => e = .returned (.string ⟨(fixedL s).toArray⟩) ∧ Below w.heap.size w w' := by
  have hsI : (s.size : Int) ≤ 1048576 := by omega
  by_cases h : s.size ≤ 300
  · have HF : Hid (fixedL s = knownL s) := if_pos h
    rw [unhide HF]
    exact implFixed_any s w h
  · have hI : (300 : Int) < (s.size : Int) := by omega
    have HF : Hid (fixedL s = []) := if_neg h
    clear h
    go_enter Tryd.func13, Tryd.ntmps13
    go_wp2
    go_ret
    exact ⟨by rw [unhide HF]; rfl, Below.refl _ _⟩


end Go.Proofs.YtpmidjddjdejmaaDoor
/- A text packed as it is, and by the codes that all know, as strings. -/
namespace Go.Proofs.YtpmidjddjdejmaaDoor
open Go.RowKit Corb

def byS (s : ByteArray) : ByteArray := ⟨(storeL s.data.toList).toArray⟩
def byF (s : ByteArray) : ByteArray := ⟨(fixedL s).toArray⟩
theorem byS_long (s : ByteArray) (h : ¬ s.size ≤ 300) : byS s = ⟨#[]⟩ := by
  have : storeL s.data.toList = [] := by unfold storeL; rw [if_neg (by rw [str_len]; exact h)]
  unfold byS; rw [this]
theorem byF_long (s : ByteArray) (h : ¬ s.size ≤ 300) : byF s = ⟨#[]⟩ := by unfold byF fixedL; rw [if_neg h]

end Go.Proofs.YtpmidjddjdejmaaDoor
