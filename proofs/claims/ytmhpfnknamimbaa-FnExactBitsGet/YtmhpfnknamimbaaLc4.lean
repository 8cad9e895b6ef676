/- The walk of a law of bits: a number is its lower bits, and its upper ones behind them. -/
import Derived.Test.YtmhpfnknamimbaaLc3
import Derived.Deep.RegionHeld3
import Derived.Deep.DrawnRows
namespace Go.Proofs.Ytmhpfnknamimbaa
open Go.RowKit Corb

set_option maxHeartbeats 400000 in
theorem cbPow_any (n : Int) (w : World) (h : n ≤ 60) :
    Calls Try.prog 29 #[.int .i64 n] w fun e w' => e = .returned (.int .i64 (p2 n.toNat : Nat)) ∧ w' = w := by
  have hle : p2 n.toNat ≤ 2 ^ 60 := Nat.pow_le_pow_right (by omega) (by omega)
  generalize hN : p2 n.toNat = N at *
  have HN := hide hN
  clear hN
  go_enter Try.func29, Try.ntmps29
  go_wp2
  go_loop [0, 3] (fun m o => ∃ (k : Int), k ≤ 60 ∧ m = .int .i64 k ∧ ∃ p : Nat, o = .int .i64 p ∧ p * p2 k.toNat = N) (fun m _ => (intOf m).toNat)
  case atStart => exact ⟨n, h, rfl, 1, rfl, by have := unhide HN; omega⟩
  case round =>
    obtain ⟨k, hk, rfl, p, rfl, hp⟩ := hrel
    by_cases h0 : 0 < k
    · have e : p2 k.toNat = p2 (k - 1).toNat * 2 := by rw [← p2_succ]; congr 1; omega
      have hq : p * 2 * p2 (k - 1).toNat = N := by rw [← hp, e, Nat.mul_assoc, Nat.mul_comm 2]
      have hpl : p * 2 ≤ 2 ^ 60 := by
        have h1 : p * 2 * 1 ≤ p * 2 * p2 (k - 1).toNat := Nat.mul_le_mul_left _ (p2_pos _)
        omega
      have HQ := hide hq
      have hpl' : (p : Int) ≤ 1152921504606846976 := by have : (2 : Nat) ^ 60 = 1152921504606846976 := by decide
                                                        omega
      clear e hq hpl hp hle
      go_wp2
      go_round
      case rel => exact ⟨k - 1, by omega, rfl, p * 2, by go_num, unhide HQ⟩
      case measure => simp [intOf]; omega
    · have hk0 : k.toNat = 0 := by omega
      rw [hk0] at hp
      have HP : Hid (p = N) := by have : p = N := by rw [← hp]; simp [p2]
                                  exact this
      clear hp hk0 hle
      go_wp2
      go_ret
      exact ⟨ret_int (by rw [unhide HP]), rfl⟩

def halvesP (p : Int × Int) : List (Int × Int) := [(p.1 % (p2 (p.2 / 2).toNat : Nat), p.2 / 2), (p.1 / (p2 (p.2 / 2).toNat : Nat), p.2 - p.2 / 2)]
def halvesL (l : List (Int × Int)) : List (Int × Int) := l.flatMap halvesP
theorem halvesL_snoc (l : List (Int × Int)) (p : Int × Int) : halvesL (l ++ [p]) = halvesL l ++ halvesP p := by simp [halvesL]
theorem halvesL_len (l : List (Int × Int)) : (halvesL l).length = 2 * l.length := by
  induction l with
  | nil => rfl
  | cons p l ih =>
    have : halvesL (p :: l) = halvesP p ++ halvesL l := by simp [halvesL]
    rw [this, List.length_append, ih]
    simp [halvesP]; omega

theorem half_ok {x y : Int} (h : pOk x y = true) : pOk (x % (p2 (y / 2).toNat : Nat)) (y / 2) = true ∧ pOk (x / (p2 (y / 2).toNat : Nat)) (y - y / 2) = true ∧
    (x % (p2 (y / 2).toNat : Nat)).toNat = x.toNat % p2 (y / 2).toNat ∧ (x / (p2 (y / 2).toNat : Nat)).toNat = x.toNat / p2 (y / 2).toNat ∧ (y / 2).toNat + (y - y / 2).toNat = y.toNat := by
  obtain ⟨⟨b0, b1⟩, n0, n1⟩ := pOk_true.1 h
  obtain ⟨X, rfl⟩ := Int.eq_ofNat_of_zero_le n0
  have hp := p2_pos (y / 2).toNat
  have hsum : (y / 2).toNat + (y - y / 2).toNat = y.toNat := by omega
  have hpp : p2 y.toNat = p2 (y / 2).toNat * p2 (y - y / 2).toNat := by rw [← hsum]; exact Nat.pow_add _ _ _
  generalize hP : p2 (y / 2).toNat = P at *
  generalize hQ : p2 (y - y / 2).toNat = Q at *
  have hX : X < P * Q := by rw [← hpp]; omega
  have h1 : X % P < P := Nat.mod_lt _ hp
  have h2 : X / P < Q := Nat.div_lt_of_lt_mul hX
  have e1 : (X : Int) % (P : Int) = ((X % P : Nat) : Int) := by simp
  have e2 : (X : Int) / (P : Int) = ((X / P : Nat) : Int) := by simp
  rw [e1, e2]
  refine ⟨pOk_true.2 ⟨by omega, Int.natCast_nonneg _, ?_⟩, pOk_true.2 ⟨by omega, Int.natCast_nonneg _, ?_⟩, Int.toNat_natCast _, Int.toNat_natCast _, hsum⟩
  · rw [hP]; exact Int.ofNat_lt.2 h1
  · rw [hQ]; exact Int.ofNat_lt.2 h2

theorem halves_val (l : List (Int × Int)) (h : allOk l = true) : allOk (halvesL l) = true ∧ valP (halvesL l) = valP l := by
  induction l with
  | nil => exact ⟨rfl, rfl⟩
  | cons p l ih =>
    have h' : pOk p.1 p.2 = true ∧ allOk l = true := by simpa [allOk] using h
    obtain ⟨ih1, ih2⟩ := ih h'.2
    obtain ⟨o1, o2, e1, e2, e3⟩ := half_ok h'.1
    have hc : halvesL (p :: l) = halvesP p ++ halvesL l := by simp [halvesL]
    rw [hc]
    refine ⟨?_, ?_⟩
    · rw [allOk_append, ih1]
      simp [allOk, halvesP, o1, o2]
    · rw [show p :: l = [p] ++ l from rfl, valP_append, valP_append, ih2]
      have h1 : valP (halvesP p) = (p.1.toNat, p.2.toNat) := by
        simp only [valP, natP, halvesP, List.map_cons, List.map_nil, putV, e1, e2]
        have := half_val 0 0 p.1.toNat (p.2 / 2).toNat 0
        simp only [Nat.zero_add, Nat.pow_zero, Nat.mul_one] at this ⊢
        refine Prod.ext ?_ e3
        have h3 := this.1
        simp only [p2] at h3 ⊢
        omega
      have h2 : valP [p] = (p.1.toNat, p.2.toNat) := by simp [valP, natP, putV]
      rw [h1, h2]

theorem halves_law (l : List (Int × Int)) (hl : l.length ≤ 12) (h : lOk l = true) : putS (halvesL l) = putS l := by
  have ha : allOk l = true := by simp only [lOk, Bool.and_eq_true] at h; exact h.1
  obtain ⟨h1, h2⟩ := halves_val l ha
  have hk : lOk (halvesL l) = true := by
    simp only [lOk, Bool.and_eq_true, decide_eq_true_iff]
    exact ⟨h1, by rw [halvesL_len]; omega⟩
  rw [putS_yes hk, putS_yes h, textP, textP, h2]

theorem four_cells (W : World) (t : TypeId) (a b c d : Int) : ∀ (j : Nat) (u : Value), [Value.int .i64 a, .int .i64 b, .int .i64 c, .int .i64 d][j]? = some u →
    (W.alloc (.cells #[.int .i64 a, .int .i64 b, .int .i64 c, .int .i64 d] t)).cell? ((⟨W.heap.size, 0, none⟩ : Addr).add j) = some u := by
  intro j u hj
  match j, hj with
  | 0, hj => simp at hj; subst hj; simp [Addr.add]
  | 1, hj => simp at hj; subst hj; simp [Addr.add]
  | 2, hj => simp at hj; subst hj; simp [Addr.add]
  | 3, hj => simp at hj; subst hj; simp [Addr.add]
theorem four_one (a b c d : Int) : ∀ u ∈ [Value.int .i64 a, .int .i64 b, .int .i64 c, .int .i64 d], u.oneCell' = true := by
  intro u hu
  simp at hu
  rcases hu with rfl | rfl | rfl | rfl <;> rfl
theorem wrap_i64 (n : Int) (h1 : -9223372036854775808 ≤ n) (h2 : n < 9223372036854775808) : IntKind.i64.wrap n = n := by
  simp [IntKind.wrap, IntKind.bits, IntKind.signed]; omega

attribute [local go_sem ↓] Go.wp_at_zero Go.wp_at_succ

set_option maxHeartbeats 1600000 in
theorem fnBitsHalves_walk (a : Option Addr) (len cap : Nat) (zs : List Int) (w : World) (w0 : IsRow .u8 w a len cap zs) :
    Calls Try.prog 8 #[.slice a len cap] w fun e w' => e = .returned (.bool true) ∧ Below w.heap.size w w' := by
  obtain ⟨⟨z, hsrc⟩, hc, hm⟩ := src_of w0
  have hm' := hide hm
  unfold maxLen at hm
  clear w0
  obtain ⟨i0, hi, hz0, hz1, hz2⟩ := info_parts Try.infoPiece
  by_cases hl : (len : Int) ≤ 1048576
  · go_enter Try.func8, Try.ntmps8
    go_wp2_with fail
    refine (drawBitsPut_any a len cap z _ hsrc hc (unhide hm')).mono ?_
    rintro e x1 ⟨⟨l, g, lcap, rfl, hp1, hl12⟩, hb1⟩
    have HL := hide hl12
    have hl12' : (l.length : Int) ≤ 12 := by omega
    have hlaw := hide (fun h => halves_law l hl12 h)
    have hlok := hide (lok_of (l := l))
    clear hl12
    generalize hs : putS l = S at *
    generalize hn : longI l = n at *
    have Hs := hide hs
    have Hn := hide hn
    clear hs hn
    go_wp2_with fail
    refine (implBitsPut_any _ _ l _ hp1.row (by have := unhide HL; omega)).mono ?_
    rintro e x2 ⟨rfl, hb2⟩
    rw [unhide Hs]
    have hp2 := hp1.later hb2 (Nat.le_refl _)
    go_wp2_with fail
    refine (specBitsPut_any _ _ l _ hp2.row (by have := unhide HL; omega)).mono ?_
    rintro e x3 ⟨rfl, hb3⟩
    rw [unhide Hs]
    have hp3 := hp2.later hb3 (Nat.le_refl _)
    go_wp2_with fail
    refine (implBitsLong_any _ _ l _ hp3.row (by have := unhide HL; omega)).mono ?_
    rintro e x4 ⟨rfl, hb4⟩
    rw [unhide Hn]
    have hp4 := hp3.later hb4 (Nat.le_refl _)
    have hbA := bnext (bnext (bnext hb1 hb2) hb3) hb4
    clear hp1 hp2 hp3 hb1 hb2 hb3 hb4
    by_cases hn0 : n < 0
    · go_wp2_with fail
      refine (specBitsPut_any _ _ l _ hp4.row (by have := unhide HL; omega)).mono ?_
      rintro e x5 ⟨rfl, hb5⟩
      rw [unhide Hs]
      go_wp2
      go_ret
      exact ⟨ret_bool (by simp), bnext hbA hb5⟩
    · have hlk := unhide hlok (by omega)
      have hao : allOk l = true := by simp only [lOk, Bool.and_eq_true] at hlk; exact hlk.1
      have E1 := hide (unhide hlaw hlk)
      have HAO := hide hao
      clear hlk hlaw hlok hao
      have hq0 : Pcs (x4.alloc (.cells #[] 29)) x4.heap.size (.slice (some ⟨x4.heap.size, 0, none⟩) 0 0) (halvesL []) :=
        World.ownsRow_lit x4 #[] 0 (Nat.le_refl _) (by unfold maxLen; omega) rfl
      have hb0 : Below x4.heap.size x4 (x4.alloc (.cells #[] 29)) := (Below.refl _ _).alloc (Nat.le_refl _) _
      go_wp2_with fail
      go_loopw [5, 6] (fun v i wr => ∃ k : Nat, k ≤ l.length ∧ i = .int .i64 k ∧ Pcs wr x4.heap.size v (halvesL (l.take k)) ∧ Below x4.heap.size x4 wr) (fun _ i _ => l.length - (intOf i).toNat)
      case atStart => exact ⟨0, Nat.zero_le _, rfl, hq0, hb0⟩
      case round =>
        obtain ⟨k, hk, rfl, hq, hbel⟩ := hrel
        clear hq0 hb0
        have hlenk : Hid ((halvesL (l.take k)).length = 2 * k) := by
          show (halvesL (l.take k)).length = 2 * k
          rw [halvesL_len]; simp; omega
        have hbs := hbel.size
        by_cases hlt : k < l.length
        · have HC : ∀ W, Below x4.heap.size x4 W → W.cell? ⟨g, k * 2, none⟩ = some (.int .i64 (l.getD k (0, 0)).1) ∧ W.cell? ⟨g, k * 2 + 1, none⟩ = some (.int .i64 (l.getD k (0, 0)).2) := by
            intro W hW
            obtain ⟨g', o, ea, hg', hcells⟩ := (hp4.row.later hW) (by omega)
            obtain ⟨c0, c1⟩ := hcells k hlt
            simp only [Option.some.injEq, Addr.mk.injEq, and_true] at ea
            obtain ⟨rfl, rfl⟩ := ea
            rw [Nat.zero_add] at c0 c1
            exact ⟨c0, c1⟩
          obtain ⟨c0, c1⟩ := HC _ hbel
          have hpo := allOk_get (unhide HAO) k hlt
          have htk := hide (take_snocP l k hlt)
          have HK := hide hk
          clear hk
          generalize (l.getD k (0, 0)).1 = x at *
          generalize (l.getD k (0, 0)).2 = y at *
          obtain ⟨⟨y0, y1⟩, x0, x1⟩ := pOk_true.1 hpo
          have hx65 : (p2 y.toNat : Nat) ≤ p2 16 := p2_le _ _ (by omega)
          have x2 : x < 65536 := by have : p2 16 = 65536 := by decide
                                    omega
          clear hx65 x1 hpo
          go_wp2_with fail
          have hpp := p2_pos (y / 2).toNat
          have hpl : p2 (y / 2).toNat ≤ p2 8 := p2_le _ _ (by omega)
          obtain ⟨Q, hQ⟩ : ∃ Q : Nat, Q = p2 (y / 2).toNat := ⟨_, rfl⟩
          have HQ : Hid (p2 (y / 2).toNat = Q) := hQ.symm
          rw [← hQ] at hpp hpl
          have q0 : (0 : Int) < (Q : Int) := by omega
          have q1 : ¬ (Q : Int) = 0 := by omega
          have q10 : ¬ Q = 0 := by omega
          have q2 : (Q : Int) ≤ 256 := by have : p2 8 = 256 := by decide
                                          omega
          have q3 : Int.tmod x (Q : Int) = x % (Q : Int) := Int.tmod_eq_emod_of_nonneg x0
          have q4 : Int.tdiv x (Q : Int) = x / (Q : Int) := Int.tdiv_eq_ediv_of_nonneg x0
          have q5 : 0 ≤ x / (Q : Int) ∧ x / (Q : Int) ≤ x := ⟨Int.ediv_nonneg x0 (by omega), Int.ediv_le_self _ x0⟩
          have q6 : IntKind.i64.wrap (x / (Q : Int)) = x / (Q : Int) := wrap_i64 _ (by omega) (by omega)
          have q8 : 0 ≤ x % (Q : Int) ∧ x % (Q : Int) < (Q : Int) := ⟨Int.emod_nonneg _ q1, Int.emod_lt_of_pos _ q0⟩
          have q9 : IntKind.i64.wrap (x % (Q : Int)) = x % (Q : Int) := wrap_i64 _ (by omega) (by omega)
          have q7 : IntKind.i64.wrap (y - y / 2) = y - y / 2 := wrap_i64 _ (by omega) (by omega)
          have hbA' : Below x4.heap.size x4 (wr.alloc (.cells #[.int .i64 (x % (Q : Int)), .int .i64 (y / 2), .int .i64 (x / (Q : Int)), .int .i64 (y - y / 2)] 29)).drew := (hbel.alloc hbs _).drew
          have hqA : World.ownsRow (wr.alloc (.cells #[.int .i64 (x % (Q : Int)), .int .i64 (y / 2), .int .i64 (x / (Q : Int)), .int .i64 (y - y / 2)] 29)).drew x4.heap.size 29 2 u5 (halvesL (l.take k)).length (pcells (halvesL (l.take k))) := World.ownsRow.alloc hq _
          have hcA := hide (four_cells wr 29 (x % (Q : Int)) (y / 2) (x / (Q : Int)) (y - y / 2))
          have bd1 : Hid ((halvesL (l.take k)).length + 2 ≤ maxLen) := by have := unhide HL; have := unhide hlenk; show _ ≤ _; unfold maxLen; omega
          have bd2 : Hid (((halvesL (l.take k)).length + 2) * 16 ≤ 140737488355328) := by have := unhide HL; have := unhide hlenk; show _ ≤ _; omega
          have cP := fun W => cbPow_any (y / 2) W (by omega)
          rw [← hQ] at cP
          clear hQ hpp hpl q5 q8
          go_region_held3 (fun W => W.cell? ⟨g, k * 2, none⟩ = some (.int .i64 x) ∧ W.cell? ⟨g, k * 2 + 1, none⟩ = some (.int .i64 y)) (first | exact HC _ hbel.drew | assumption | exact HC _ (hbel.drew.alloc hbs _)) (first
            | (go_at_call 29; refine (cP _).mono ?_; rintro e y5 ⟨rfl, rfl⟩)
            | (refine step_append_own rfl (.tmp 41) (.tmp 68) 23 rfl x4.heap.size 29 i0 (.agg #[.int .i64 0, .int .i64 0]) 2 16 Try.underlying23 hi hz0 hz1 hz2 rfl (Nat.zero_lt_succ 1) u5 _ _ rfl hqA ⟨wr.heap.size, 0, none⟩ 2 2 [.int .i64 (x % (Q : Int)), .int .i64 (y / 2), .int .i64 (x / (Q : Int)), .int .i64 (y - y / 2)] rfl rfl (unhide hcA) (four_one _ _ _ _) (unhide bd1) (unhide bd2) hbA'.size ?_; intro v' x5 hown hgrow hnil; clear hnil; have hb5 := grown_below hgrow hqA hbA'; have hq5 := pcs_two rfl hown; clear hown hgrow; have hC5 := HC _ hb5))
          clear hqA hcA hbA' hq hbel
          have hsn := halvesL_snoc (l.take k) (x, y)
          rw [← unhide htk] at hsn
          simp only [halvesP] at hsn
          rw [unhide HQ] at hsn
          rw [← hsn] at hq5
          clear hsn
          go_wp2
          go_roundw
          case rel => exact ⟨k + 1, by have := unhide HK; omega, by go_num, hq5, hb5⟩
          case measure => simp [intOf]; omega
        · have hlk2 : Hid (l.take k = l) := List.take_of_length_le (by omega)
          rw [unhide hlk2] at hq
          have hlen2 : Hid ((halvesL l).length = 2 * l.length) := halvesL_len l
          obtain ⟨va, vc, rfl⟩ := hq.form
          have hbB := bnext hbA hbel
          clear hp4 hbel hbA
          go_wp2_with fail
          refine (implBitsPut_any _ _ (halvesL l) _ hq.row (by have := unhide HL; have := unhide hlen2; omega)).mono ?_
          rintro e y1 ⟨rfl, hc1⟩
          rw [unhide E1]
          go_wp2
          go_ret
          exact ⟨ret_bool (by simp), bnext hbB hc1⟩
  · go_enter Try.func8, Try.ntmps8
    go_wp2
    go_ret
    exact ⟨rfl, Below.refl _ _⟩

end Go.Proofs.Ytmhpfnknamimbaa
