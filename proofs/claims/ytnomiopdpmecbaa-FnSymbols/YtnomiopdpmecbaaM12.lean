/- Of what the proof is made: 12 texts, one behind the other. -/
import Derived.Test.YtnomiopdpmecbaaRb1
import Derived.Test.YtnomiopdpmecbaaM5
import Derived.Test.YtnomiopdpmecbaaM4
import Derived.Test.YtnomiopdpmecbaaM1
import Derived.Test.YtnomiopdpmecbaaStepLaw
import Derived.Deep.CutRange
import Derived.Laws.IdiomStrings
import Derived.Laws.OwnMore
import Derived.Test.YtnomiopdpmecbaaM2
/- What the model's writer of bits holds, over this seat's program. -/
namespace Go.Proofs.Ytnomiopdpmecbaa
open Go.RowKit Corb

/-- Bytes as cells. -/
def bcells (l : List UInt8) : List Value := l.map fun x => Value.int .u8 (x.toNat : Int)

/-- A row of bytes of the call's own, behind block b. -/
def Bys (w : World) (b : Nat) (v : Value) (l : List UInt8) : Prop := w.ownsRow (b + 1) 5 1 v l.length (bcells l)

theorem Bys.form {w : World} {b : Nat} {v : Value} {l : List UInt8} (h : Bys w b v l) : ∃ a cap, v = .slice a l.length cap := by
  rcases h.2 with ⟨e, h0⟩ | ⟨g, cap, _, e, _⟩
  · exact ⟨none, 0, by rw [e, h0]⟩
  · exact ⟨_, cap, e⟩
theorem Bys.set {w : World} {b o : Nat} {v : Value} {l : List UInt8} (h : Bys w b v l) (u : Value) : Bys (w.setCell ⟨b, o, none⟩ u) b v l :=
  ownsRow_setCell_below h (a := ⟨b, o, none⟩) (Nat.lt_succ_self b) u
theorem Bys.drew {w : World} {b : Nat} {v : Value} {l : List UInt8} (h : Bys w b v l) : Bys w.drew b v l := h

/-- The model's writer: the number V of m bits. -/
def Out (w : World) (b V m : Nat) : Prop :=
  V < p2 m ∧ ∃ v, Three w b v (.int .i64 (V / p2 (8 * (m / 8)) : Nat)) (.int .i64 (m % 8 : Nat)) ∧ Bys w b v (leS (m / 8) V)

theorem out_room (V m x : Nat) (hV : V < p2 m) (hx : x ≤ 1) (hr : m % 8 < 7) :
    V + x * p2 m < p2 (m + 1) ∧ (V + x * p2 m) / p2 (8 * ((m + 1) / 8)) = V / p2 (8 * (m / 8)) + x * p2 (m % 8) ∧ leS ((m + 1) / 8) (V + x * p2 m) = leS (m / 8) V := by
  refine ⟨add_lt V x m hV hx, ?_, ?_⟩
  · rw [show (m + 1) / 8 = m / 8 by omega]
    have := div_add V x m (m / 8) (by omega)
    rw [show m - 8 * (m / 8) = m % 8 by omega] at this
    exact this
  · rw [show (m + 1) / 8 = m / 8 by omega]
    exact leS_add (m / 8) V x m (by omega)
theorem out_full (V m x : Nat) (hV : V < p2 m) (hx : x ≤ 1) (hr : m % 8 = 7) :
    V + x * p2 m < p2 (m + 1) ∧ (V + x * p2 m) / p2 (8 * ((m + 1) / 8)) = 0 ∧ (m + 1) % 8 = 0 ∧
      leS ((m + 1) / 8) (V + x * p2 m) = leS (m / 8) V ++ [UInt8.ofNat (V / p2 (8 * (m / 8)) + x * p2 (m % 8))] := by
  have h1 := add_lt V x m hV hx
  refine ⟨h1, ?_, by omega, ?_⟩
  · apply Nat.div_eq_of_lt
    have : p2 (8 * ((m + 1) / 8)) = 2 ^ (m + 1) := by unfold p2; rw [show 8 * ((m + 1) / 8) = m + 1 by omega]
    rw [this]; exact h1
  · rw [show (m + 1) / 8 = m / 8 + 1 by omega]
    have a := leS_add (m / 8) V x m (by omega)
    have d := div_add V x m (m / 8) (by omega)
    rw [show m - 8 * (m / 8) = m % 8 by omega] at d
    have hl := high_lt (V + x * 2 ^ m) (m + 1) (m / 8) h1 (by omega)
    rw [show m + 1 - 8 * (m / 8) = 8 by omega] at hl
    show leS (m / 8) (V + x * 2 ^ m) ++ [UInt8.ofNat ((V + x * 2 ^ m) / 2 ^ (8 * (m / 8)) % 256)] = _
    rw [Nat.mod_eq_of_lt hl, a, d]
    rfl
theorem last_bd (V m : Nat) (hV : V < p2 m) : V / p2 (8 * (m / 8)) < p2 (m % 8) := by
  have := high_lt V m (m / 8) hV (by omega)
  rw [show m - 8 * (m / 8) = m % 8 by omega] at this
  exact this
theorem Try.infoByte : (Try.prog.info? 5).map (fun i => (i.zero, i.size, i.bytes)) = some (some (.int .u8 0), 1, 1) := by kernel_rfl
theorem byte_val (k : Nat) (h : k < 256) : (UInt8.ofNat k).toNat = k := by
  have : k % 256 = k := Nat.mod_eq_of_lt h
  simp [this]

theorem push_after {w W2 WA w' : World} {b : Nat} {v v' v1 v2 : Value} {l : List UInt8} {x : UInt8} (T2 : Three W2 b v v1 v2) (Y2 : Bys W2 b v l) (B2 : Below b w W2)
    (hWA : Below (b + 1) W2 WA) (hown : w'.ownsRow (b + 1) 5 1 v' (l.length + 1) (bcells l ++ [.int .u8 (x.toNat : Int)])) (hgrow : WA.grownBy w' v.ownBlock) :
    (∃ g cap, v' = .slice (some ⟨g, 0, none⟩) (l.length + 1) cap) ∧ Three w' b v v1 v2 ∧ Bys w' b v' (l ++ [x]) ∧ Below b w w' := by
  have hlt := T2.2.2.2.2.2.2
  have hlt2 := Nat.lt_of_lt_of_le hlt hWA.size
  have hblk : ∀ k, v.ownBlock = some k → b + 1 ≤ k := fun k hk => (Y2.lt k hk).1
  have hb : Below (b + 1) W2 w' := hWA.grown hgrow (by omega) hblk
  refine ⟨?_, T2.kept hb, ?_, B2.trans (hb.mono (by omega))⟩
  · rcases hown.2 with ⟨_, h0⟩ | ⟨g, cap, _, e, _⟩
    · omega
    · exact ⟨g, cap, e⟩
  · show w'.ownsRow (b + 1) 5 1 v' (l ++ [x]).length (bcells (l ++ [x]))
    simpa [bcells] using hown

end Go.Proofs.Ytnomiopdpmecbaa
/- The contract of the model's writer of bits: a number is put, over this seat's program. -/
namespace Go.Proofs.Ytnomiopdpmecbaa
open Go.RowKit Corb

theorem put_bits (n k : Nat) : n % p2 (k + 1) = n % p2 k + n / p2 k % 2 * p2 k := low_bits n k
theorem put_val (V n k m : Nat) : V + n % p2 (k + 1) * p2 m = V + n % p2 k * p2 m + n / p2 k % 2 * p2 (m + k) := by
  rw [put_bits, Nat.add_mul, Nat.mul_assoc, show p2 k * p2 m = p2 (m + k) by unfold p2; rw [← Nat.pow_add, Nat.add_comm]]
  omega
theorem half_pow (n k : Nat) : n / p2 k / 2 = n / p2 (k + 1) := div_pow_succ n k

set_option maxHeartbeats 3200000 in
theorem put_any (b V m : Nat) (num bits : Int) (w : World) (h : Out w b V m) (n0 : 0 ≤ num) (n1 : num < 65536) (b0 : 0 ≤ bits) (b1 : bits ≤ 16) (hm : m ≤ 100000) :
    Calls Try.prog 46 #[.pointer (some ⟨b, 0, none⟩), .int .i64 num, .int .i64 bits] w fun e w' => e = .returned (.tuple #[]) ∧
      Out w' b (V + num.toNat % p2 bits.toNat * p2 m) (m + bits.toNat) ∧ Below b w w' := by
  obtain ⟨n, rfl⟩ := Int.eq_ofNat_of_zero_le n0
  obtain ⟨c, rfl⟩ := Int.eq_ofNat_of_zero_le b0
  rw [Int.toNat_natCast, Int.toNat_natCast]
  obtain ⟨i0, hi, hz0, hz1, hz2⟩ := info_parts Try.infoByte
  go_enter Try.func46, Try.ntmps46
  go_wp2
  go_loopw [1, 6] (fun x i wr => ∃ k : Nat, k ≤ c ∧ i = .int .i64 k ∧ x = .int .i64 (n / p2 k : Nat) ∧ Out wr b (V + n % p2 k * p2 m) (m + k) ∧ Below b w wr) (fun _ i _ => c - (intOf i).toNat)
  case atStart => exact ⟨0, Nat.zero_le _, rfl, by simp [p2], by simpa [p2, Nat.mod_one] using h, Below.refl _ _⟩
  case round =>
    obtain ⟨k, hk, rfl, rfl, hout, hbel⟩ := hrel
    by_cases hlt : k < c
    · have hval := hide (put_val V n k m)
      have hhalf := hide (half_pow n k)
      have hnk : n / p2 k ≤ n := Nat.div_le_self _ _
      obtain ⟨hV, v, htr, hby⟩ := hout
      obtain ⟨sa, scap, rfl⟩ := hby.form
      have hlb := last_bd (V + n % p2 k * p2 m) (m + k) hV
      generalize V + n % p2 k * p2 m = V1 at *
      generalize hm1 : m + k = m1 at *
      have hx : n / p2 k % 2 ≤ 1 := by omega
      have hxI : ((n / p2 k : Nat) : Int) % 2 = ((n / p2 k % 2 : Nat) : Int) := by omega
      have hnkI : ((n / p2 k : Nat) : Int) < 65536 := by omega
      have hp7 : p2 (m1 % 8) ≤ 128 := p2_le (m1 % 8) 7 (by omega)
      have hXle : n / p2 k % 2 * p2 (m1 % 8) ≤ 1 * p2 (m1 % 8) := Nat.mul_le_mul_right _ hx
      have hmul : ((n / p2 k % 2 : Nat) : Int) * ((p2 (m1 % 8) : Nat) : Int) = ((n / p2 k % 2 * p2 (m1 % 8) : Nat) : Int) := by simp
      have hroom := out_room V1 m1 (n / p2 k % 2) hV hx
      have hfull := out_full V1 m1 (n / p2 k % 2) hV hx
      have hr8 : m1 % 8 < 8 := Nat.mod_lt _ (by omega)
      have hm1le : m1 ≤ 100016 := by omega
      have hbl : (leS (m1 / 8) V1).length = m1 / 8 := leS_len _ _
      generalize n / p2 k = nk at *
      generalize hxx : nk % 2 = x at *
      generalize hLL : V1 / p2 (8 * (m1 / 8)) = L at *
      generalize hrr : m1 % 8 = r at *
      generalize hPP : p2 r = P at *
      generalize hXX : x * P = X at *
      have HPP := hide hPP
      have Hm1 := hide hm1
      have Hrr := hide hrr
      have Hroom := hide hroom
      have Hfull := hide hfull
      have Hx := hide hxx
      clear hm1 hLL hrr hPP hXX hV hroom hfull hxx hx hnk
      obtain ⟨k0, k1, k2, f0, f1, f2, hbw⟩ := htr
      have htr : Hid (Three wr b _ _ _) := ⟨k0, k1, k2, f0, f1, f2, hbw⟩
      have hrI : (r : Int) < 8 := by omega
      have hLI : (L : Int) < 128 := by omega
      have hXI : (X : Int) ≤ 128 := by omega
      have hkc : (k : Int) < (c : Int) := by omega
      have Hr8 := hide hr8
      have Hm1le := hide hm1le
      have Hk := hide hk
      have HLX : Hid (IntKind.i64.wrap ((L : Int) + IntKind.i64.wrap ((nk : Int).tmod 2 * (P : Int))) = (L : Int) + (X : Int)) := by
        show IntKind.i64.wrap ((L : Int) + IntKind.i64.wrap ((nk : Int).tmod 2 * (P : Int))) = (L : Int) + (X : Int)
        rw [Int.tmod_eq_emod_of_nonneg (by omega), hxI, hmul, wrap_id (X : Int) (by omega) (by omega), wrap_id ((L : Int) + (X : Int)) (by omega) (by omega)]
      clear hr8 hm1le hp7 hXle hlb hk hm
      go_wp2_with fail
      go_cut [] from 7 to 62 (fun wc => wc = (wr.setCell ⟨b, 1, none⟩ (.int .i64 ((L : Int) + (X : Int)))).drew)
      case first =>
        go_region_with (go_at_call 40; refine (l1Pow_any _ _ (by omega)).mono ?_; rintro e w' ⟨rfl, rfl⟩; rw [Int.toNat_natCast, unhide HPP])
        all_goals
          go_wp2_with fail
          go_meet
          exact by rw [unhide HLX]
      case rest =>
        have T1 := ((unhide htr).set1 (.int .i64 ((L : Int) + (X : Int)))).drew
        have Y1 := (hby.set (o := 1) (.int .i64 ((L : Int) + (X : Int)))).drew
        have B1 : Below b w _ := (below_set hbel (o := 1) (Nat.le_refl _) (.int .i64 ((L : Int) + (X : Int)))).drew
        rw [← hcut] at T1 Y1 B1
        clear hcut hby hbel htr k0 k1 k2 f0 f1 f2 hbw hmul hxI
        have T1' := hide T1
        obtain ⟨k0, k1, k2, f0, f1, f2, hbw⟩ := T1
        by_cases hr7 : (r : Int) = 7
        · have hr7N : r = 7 := by omega
          obtain ⟨o1, o2, o3, o4⟩ := unhide Hfull hr7N
          have O1 := hide o1
          have O2 := hide o2
          have O3 := hide o3
          have O4 := hide o4
          have hLX : L + X < 256 := by omega
          have hbv := hide (byte_val (L + X) hLX)
          have hbI : IntKind.u8.wrap ((L : Int) + (X : Int)) = (L : Int) + (X : Int) := by
            rw [IntKind.wrap_u8']; omega
          subst hr7N
          clear o1 o2 o3 o4 hr7 hLX
          have T2 := (unhide T1').set2 (.int .i64 8)
          have Y2 := Y1.set (o := 2) (.int .i64 8)
          have B2 : Below b w _ := below_set B1 (o := 2) (Nat.le_refl _) (.int .i64 8)
          have hlen := hide hbl
          clear hbl
          go_wp2_with fail
          generalize wc.setCell ⟨b, 2, none⟩ (.int .i64 8) = W2 at *
          clear k0 k1 k2 f0 f1 f2 T1' Y1 B1
          have T2' := hide T2
          obtain ⟨k0, k1, k2, f0, f1, f2, hb2⟩ := T2
          have hbv' : Hid (((UInt8.ofNat (L + X)).toNat : Int) = (L : Int) + (X : Int)) := by
            show ((UInt8.ofNat (L + X)).toNat : Int) = (L : Int) + (X : Int)
            rw [unhide hbv]; omega
          have hl2 : (leS (m1 / 8) V1).length ≤ 20000 := by have := unhide hlen; have := unhide Hm1le; omega
          have Hl2 := hide hl2
          clear hl2
          go_cut [] from 7 to 62 (fun wc2 => ∃ v', Three wc2 b v' (.int .i64 ((L : Int) + (X : Int))) (.int .i64 8) ∧ Bys wc2 b v' (leS (m1 / 8) V1 ++ [UInt8.ofNat (L + X)]) ∧ Below b w wc2)
          case first =>
            go_region_law (refine step_append_own rfl (.tmp 47) (.tmp 53) 22 rfl (b + 1) 5 i0 (.int .u8 0) 1 1 Try.underlying22 hi hz0 hz1 hz2 rfl (by decide) _ _ _ (by simp [Act.eval]) (Y2.alloc _) ⟨W2.heap.size, 0, none⟩ 1 1 [.int .u8 ((L : Int) + (X : Int))] (by simp [Act.eval]) rfl (by intro j u hj; match j, hj with | 0, hj => simp at hj; subst hj; simp [Addr.add]) (by intro u hu; simp at hu; subst hu; rfl) (by have := unhide Hl2; unfold maxLen; omega) (by have := unhide Hl2; omega) (by simp; omega) ?_; intro v' w' hown hgrow hnil; clear hnil; rw [← unhide hbv'] at hown; obtain ⟨⟨g', cap', rfl⟩, T3, Y3, B3⟩ := push_after (unhide T2') Y2 B2 (by first | exact (Below.refl _ _).alloc (by omega) _ | exact ((Below.refl _ _).alloc (by omega) _).drew) hown hgrow; clear hown hgrow; have T3' := hide T3; obtain ⟨q0, q1, q2, e0, e1, e2, hb3⟩ := T3)
            all_goals
              go_wp2_with fail
              go_meet
              exact ⟨_, (unhide T3').set0 _, Y3.set _, below_set B3 (Nat.le_refl _) _⟩
          case rest =>
            obtain ⟨v', T4, Y4, B4⟩ := hcut
            clear k0 k1 k2 f0 f1 f2 T2' Y2 B2 hb2
            obtain ⟨va, vc, rfl⟩ := Y4.form
            have T4' := hide T4
            obtain ⟨k0, k1, k2, f0, f1, f2, hb4⟩ := T4
            go_wp2
            go_roundw
            case rel =>
              refine ⟨k + 1, by have := unhide Hk; omega, by go_num, by rw [← unhide hhalf]; go_num, ?_, below_set (below_set B4 (Nat.le_refl _) _) (Nat.le_refl _) _⟩
              rw [unhide hval, show m + (k + 1) = m1 + 1 by have := unhide Hm1; omega]
              refine ⟨unhide O1, .slice va (leS (m1 / 8) V1 ++ [UInt8.ofNat (L + X)]).length vc, ?_, ?_⟩
              · rw [unhide O2, unhide O3]
                exact ((unhide T4').set1 _).set2 _
              · rw [unhide O4]
                exact (Y4.set _).set _
            case measure => simp [intOf]; omega
        · have hr8f : ((r : Int) + 1 == 8) = false := by simp; omega
          have hlt7 : r < 7 := by omega
          obtain ⟨o1, o2, o3⟩ := unhide Hroom hlt7
          have O1 := hide o1
          have O2 := hide o2
          have O3 := hide o3
          have hm18 : Hid ((m1 + 1) % 8 = r + 1) := by show (m1 + 1) % 8 = r + 1; have := unhide Hrr; omega
          clear o1 o2 o3 hlt7 hr7
          go_wp2
          go_roundw
          case rel =>
            refine ⟨k + 1, by have := unhide Hk; omega, by go_num, by rw [← unhide hhalf]; go_num, ?_, below_set B1 (Nat.le_refl _) _⟩
            rw [unhide hval, show m + (k + 1) = m1 + 1 by have := unhide Hm1; omega]
            refine ⟨unhide O1, .slice sa (leS (m1 / 8) V1).length scap, ?_, ?_⟩
            · rw [unhide O2, unhide hm18]
              exact (unhide T1').set2 _
            · rw [unhide O3]
              exact Y1.set _
          case measure => simp [intOf]; omega
    · have hkc : k = c := by omega
      subst hkc
      go_wp2
      go_end0
      exact ⟨rfl, hout, hbel⟩

end Go.Proofs.Ytnomiopdpmecbaa
/- The contract of the model's BitsPut, over this seat's program. -/
namespace Go.Proofs.Ytnomiopdpmecbaa
open Go.RowKit Corb

/-- The pieces as natural numbers. -/
def natP (l : List (Int × Int)) : List (Nat × Nat) := l.map (fun p => (p.1.toNat, p.2.toNat))
/-- The number that pieces make, and how many bits. -/
def valP (l : List (Int × Int)) : Nat × Nat := putV (0, 0) (natP l)
/-- The text that pieces make. -/
def textP (l : List (Int × Int)) : List UInt8 := leS (((valP l).2 + 7) / 8) (valP l).1
def putS (l : List (Int × Int)) : List UInt8 := if lOk l = true then textP l else []
theorem putS_yes {l : List (Int × Int)} (h : lOk l = true) : putS l = textP l := if_pos h
theorem putS_no {l : List (Int × Int)} (h : lOk l = false) : putS l = [] := if_neg (by simp [h])

theorem valP_take (l : List (Int × Int)) (k : Nat) (h : k < l.length) : valP (l.take (k + 1)) =
    ((valP (l.take k)).1 + (l.getD k (0, 0)).1.toNat * p2 (valP (l.take k)).2, (valP (l.take k)).2 + (l.getD k (0, 0)).2.toNat) := by
  rw [List.take_succ_eq_append_getElem h, valP, natP, List.map_append, putV_append]
  simp only [List.map_cons, List.map_nil, putV]
  have e : l.getD k (0, 0) = l[k] := by simp [List.getD, h]
  rw [e]
  rfl
theorem valP_bits (l : List (Int × Int)) (h : allOk l = true) : ((valP l).2 : Int) = sumBits l := by
  have key : ∀ (m : List (Int × Int)) (s : Nat × Nat), allOk m = true → ((putV s (natP m)).2 : Int) = (s.2 : Int) + sumBits m := by
    intro m
    induction m with
    | nil => intro s _; simp [natP, putV, sumBits]
    | cons p m ih =>
      intro s hm
      simp only [allOk, List.all_cons, Bool.and_eq_true] at hm
      have hp := pOk_true.1 hm.1
      have := ih (s.1 + p.1.toNat * 2 ^ s.2, s.2 + p.2.toNat) hm.2
      simp only [natP, List.map_cons, putV] at this ⊢
      rw [this]
      simp only [sumBits, List.map_cons, List.sum_cons]
      omega
  have := key l (0, 0) h
  simpa [valP] using this
theorem valP_lt (l : List (Int × Int)) (h : allOk l = true) : (valP l).1 < p2 (valP l).2 := by
  have key : ∀ (m : List (Int × Int)) (s : Nat × Nat), s.1 < p2 s.2 → allOk m = true → (putV s (natP m)).1 < p2 (putV s (natP m)).2 := by
    intro m
    induction m with
    | nil => intro s hs _; exact hs
    | cons p m ih =>
      intro s hs hm
      simp only [allOk, List.all_cons, Bool.and_eq_true] at hm
      have hp := pOk_true.1 hm.1
      have hn : p.1.toNat < p2 p.2.toNat := by omega
      exact ih _ (piece_lt s.1 s.2 p.1.toNat p.2.toNat hs hn) hm.2
  exact key l (0, 0) (by decide) h

theorem out_new (w : World) (t : TypeId) : Out (w.alloc (.cells #[.slice none 0 0, .int .i64 0, .int .i64 0] t)) w.heap.size 0 0 := by
  refine ⟨by decide, .slice none 0 0, ⟨by simp, by simp, by simp, by simp, by simp, by simp, by simp⟩, ?_⟩
  exact World.ownsRow_nil _ _ _ _

/-- The last byte is filled with noughts. -/
theorem whole_out {w : World} {b V m : Nat} (h : Out w b V m) (hr : m % 8 = 0) : ∃ v, Three w b v (.int .i64 (V / p2 (8 * (m / 8)) : Nat)) (.int .i64 (m % 8 : Nat)) ∧ Bys w b v (leS ((m + 7) / 8) V) := by
  obtain ⟨_, v, ht, hy⟩ := h
  exact ⟨v, ht, by rw [show (m + 7) / 8 = m / 8 by omega]; exact hy⟩

set_option maxHeartbeats 800000 in
theorem whole_any (b V m : Nat) (w : World) (h : Out w b V m) (hm : m ≤ 90000) :
    Calls Try.prog 47 #[.pointer (some ⟨b, 0, none⟩)] w fun e w' => e = .returned (.tuple #[]) ∧ (∃ v x y, Three w' b v x y ∧ Bys w' b v (leS ((m + 7) / 8) V)) ∧ Below b w w' := by
  have h' := hide h
  obtain ⟨hV, v, ht, hy⟩ := h
  obtain ⟨k0, k1, k2, f0, f1, f2, hbw⟩ := ht
  by_cases hr : m % 8 = 0
  · obtain ⟨v', T, Y⟩ := whole_out (unhide h') hr
    have TY := hide (And.intro T Y)
    have hr0 : ((m % 8 : Nat) : Int) = 0 := by omega
    clear T Y hr hV hy k0 k1 hm
    go_enter Try.func47, Try.ntmps47
    go_wp2
    go_end0
    exact ⟨rfl, ⟨v', _, _, (unhide TY).1, (unhide TY).2⟩, Below.refl _ _⟩
  · have hr0 : (0 : Int) < ((m % 8 : Nat) : Int) := by omega
    have hr1 : ((m % 8 : Nat) : Int) < 8 := by omega
    have hfin : Hid ((m + (8 - m % 8)) % 8 = 0 ∧ (m + (8 - m % 8)) / 8 = (m + 7) / 8) := by
      show (m + (8 - m % 8)) % 8 = 0 ∧ (m + (8 - m % 8)) / 8 = (m + 7) / 8
      omega
    have htn : Hid ((8 - ((m % 8 : Nat) : Int)).toNat = 8 - m % 8) := by show (8 - ((m % 8 : Nat) : Int)).toNat = 8 - m % 8; omega
    have hm' := hide hm
    clear hr hV hy k0 k1 hm
    generalize ((m % 8 : Nat) : Int) = r at *
    go_enter Try.func47, Try.ntmps47
    go_wp2_with fail
    refine (put_any b V m 0 (8 - r) _ (unhide h') (by omega) (by omega) (by omega) (by omega) (by have := unhide hm'; omega)).mono ?_
    rintro e w1 ⟨rfl, ho, hb⟩
    rw [unhide htn] at ho
    simp only [Int.toNat_zero, Nat.zero_mod, Nat.zero_mul, Nat.add_zero] at ho
    obtain ⟨_, v', T, Y⟩ := ho
    rw [(unhide hfin).2] at Y
    have TY := hide (And.intro T Y)
    clear T Y
    go_wp2
    go_end0
    exact ⟨rfl, ⟨v', _, _, (unhide TY).1, (unhide TY).2⟩, hb⟩

end Go.Proofs.Ytnomiopdpmecbaa
/- The contract of the model's BitsPut, whole, over this seat's program. -/
namespace Go.Proofs.Ytnomiopdpmecbaa
open Go.RowKit Corb

theorem ret_str {a b : List UInt8} (h : a = b) : Ending.returned (.string ⟨a.toArray⟩) = .returned (.string ⟨b.toArray⟩) := by rw [h]

theorem conv_bytes {w : World} {b : Nat} {v : Value} {l : List UInt8} (h : Bys w b v l) :
    (convert 22 9 v).run Try.prog w = .ok (.string ⟨l.toArray⟩) w := by
  rcases h.2 with ⟨e, h0⟩ | ⟨g, cap, _, e, _⟩
  · subst e
    have hl : l = [] := List.eq_nil_of_length_eq_zero h0
    subst hl
    rw [run_convert_bytes_string w _ _ _ none 0 0 Try.underlying22 Try.underlying5 Try.underlying9]
    rfl
  · subst e
    exact run_convert_bytes_back w _ _ _ ⟨g, 0, none⟩ cap l Try.underlying22 Try.underlying5 Try.underlying9 (fun j hj => by
      have := h.cells (g := g) rfl j (.int .u8 (l[j].toNat : Int)) (by simp [bcells, hj])
      exact this)

theorem PRow.below {w w' : World} {a : Option Addr} {l : List (Int × Int)} {B : Nat} (h : PRow w a l) (hB : w.heap.size ≤ B) (hb : Below B w w') : PRow w' a l := h.later (hb.mono hB)

set_option maxHeartbeats 1600000 in
theorem specBitsPut_any (a : Option Addr) (cap : Nat) (l : List (Int × Int)) (w : World) (h : PRow w a l) (hm : l.length ≤ 1000000000) :
    Calls Try.prog 32 #[.slice a l.length cap] w fun e w' => e = .returned (.string ⟨(putS l).toArray⟩) ∧ Below w.heap.size w w' := by
  have hm' : (l.length : Int) ≤ 1000000000 := by omega
  cases hok : lOk l
  · have HI := hide (putS_no hok)
    have hok' : (allOk l && decide (l.length ≤ 4000)) = false := hok
    go_enter Try.func32, Try.ntmps32
    go_wp2_with (go_at_call 45; refine (l1Pieces_any _ _ _ _ h hm).mono ?_; rintro e w1 ⟨rfl, hb1⟩; rw [hok'])
    go_ret
    exact ⟨ret_str (a := []) (unhide HI).symm, hb1⟩
  · have HI := hide (putS_yes hok)
    have hok' : (allOk l && decide (l.length ≤ 4000)) = true := hok
    simp only [lOk, Bool.and_eq_true, decide_eq_true_iff] at hok
    obtain ⟨hall, h4⟩ := hok
    have hall' := hide hall
    have H4 := hide h4
    have h4' : (l.length : Int) ≤ 4000 := by omega
    clear hall h4
    go_enter Try.func32, Try.ntmps32
    go_wp2_with fail
    refine (l1Pieces_any _ _ _ _ h hm).mono ?_
    rintro e w1 ⟨rfl, hb1⟩
    rw [hok']
    clear hok'
    have h1 := h.later hb1
    have hout0 := out_new w1 84
    clear h
    have hb1s := hb1.size
    go_wp2_with fail
    go_loopw [4] (fun i wr => ∃ k : Nat, k ≤ l.length ∧ i = .int .i64 k ∧ Out wr w1.heap.size (valP (l.take k)).1 (valP (l.take k)).2 ∧ Below w1.heap.size w1 wr) (fun i _ => l.length - (intOf i).toNat)
    case atStart => exact ⟨0, Nat.zero_le _, rfl, hout0, (Below.refl _ _).alloc (Nat.le_refl _) _⟩
    case round =>
      obtain ⟨k, hk, rfl, hout, hbel⟩ := hrel
      have hmb := valP_bits (l.take k) (allOk_take_true (unhide hall') k)
      obtain ⟨s0, s1⟩ := sum_bd (allOk_take_true (unhide hall') k)
      have s2 : ((l.take k).length : Int) ≤ 4000 := by simp; omega
      have hml : Hid ((valP (l.take k)).2 ≤ 64000) := by show (valP (l.take k)).2 ≤ 64000; omega
      clear hmb s0 s1 s2 hout0
      by_cases hlt : k < l.length
      · obtain ⟨g, o, rfl, hg, hc⟩ := (h1.later hbel) (by omega)
        obtain ⟨c0, c1⟩ := hc k hlt
        obtain ⟨⟨y0, y1⟩, x0, x1⟩ := pOk_true.1 (allOk_get (unhide hall') k hlt)
        have hq := (pow_bd _ y1).2
        have hx2 : (l.getD k (0, 0)).1 < 65536 := by omega
        have hmod : Hid ((l.getD k (0, 0)).1.toNat % p2 (l.getD k (0, 0)).2.toNat = (l.getD k (0, 0)).1.toNat) := Nat.mod_eq_of_lt (by omega)
        have hstep := hide (valP_take l k hlt)
        have HK := hide hk
        clear hc h1 x1 hq hk
        generalize (l.getD k (0, 0)).1 = x at *
        generalize (l.getD k (0, 0)).2 = y at *
        generalize valP (l.take k) = S at *
        go_wp2_with fail
        go_region_with (go_at_call 46; refine (put_any w1.heap.size _ _ _ _ _ (by exact hout) x0 hx2 y0 y1 (by have := unhide hml; omega)).mono ?_; rintro e w' ⟨rfl, hout', hbel'⟩)
        all_goals
          go_wp2
          go_roundw
          case rel =>
            rw [unhide hmod] at hout'
            exact ⟨k + 1, by have := unhide HK; omega, by go_num, by rw [unhide hstep]; exact hout', hbel.drew.trans hbel'⟩
          case measure => simp [intOf]; omega
      · have hlk : Hid (l.take k = l) := List.take_of_length_le (by omega)
        clear h1
        go_wp2_with fail
        refine (whole_any w1.heap.size _ _ _ hout (by have := unhide hml; omega)).mono ?_
        rintro e w2 ⟨rfl, ⟨v, x, y, T, Y⟩, hb2⟩
        rw [unhide hlk] at Y
        have hconv := conv_bytes Y
        obtain ⟨va, vc, rfl⟩ := Y.form
        obtain ⟨k0, k1, k2, f0, f1, f2, hb3⟩ := T
        clear k1 k2 hout Y
        generalize hres : (leS (((valP l).2 + 7) / 8) (valP l).1) = res at *
        have HR : Hid (res = putS l) := by have h := unhide HI; rw [h, ← hres]; exact rfl
        clear hres
        go_wp2
        go_ret
        exact ⟨ret_str (unhide HR), bnext hb1 (hbel.trans hb2)⟩

end Go.Proofs.Ytnomiopdpmecbaa
/- Plain mathematics: bits of whole bytes, and others behind them; a number in two. -/
namespace Go.Proofs.Ytnomiopdpmecbaa
open Corb

theorem leS_split (q k V W : Nat) (hV : V < 2 ^ (8 * q)) : leS (q + k) (V + W * 2 ^ (8 * q)) = leS q V ++ leS k W := by
  induction k with
  | zero => simp [leS, leS_add q V W (8 * q) (Nat.le_refl _)]
  | succ k ih =>
    rw [show q + (k + 1) = (q + k) + 1 by omega]
    simp only [leS]
    rw [ih, List.append_assoc]
    congr 3
    have e : 2 ^ (8 * (q + k)) = 2 ^ (8 * q) * 2 ^ (8 * k) := by rw [← Nat.pow_add]; congr 1; omega
    rw [e, ← Nat.div_div_eq_div_mul, Nat.add_mul_div_right _ _ (Nat.two_pow_pos _), Nat.div_eq_of_lt hV, Nat.zero_add]

theorem putV_shift (V m : Nat) (l : List (Nat × Nat)) : putV (V, m) l = (V + (putV (0, 0) l).1 * 2 ^ m, m + (putV (0, 0) l).2) := by
  have key : ∀ (l : List (Nat × Nat)) (W k : Nat), putV (V + W * 2 ^ m, m + k) l = (V + (putV (W, k) l).1 * 2 ^ m, m + (putV (W, k) l).2) := by
    intro l
    induction l with
    | nil => intro W k; rfl
    | cons p l ih =>
      intro W k
      simp only [putV]
      have e : V + W * 2 ^ m + p.1 * 2 ^ (m + k) = V + (W + p.1 * 2 ^ k) * 2 ^ m := by
        rw [Nat.add_mul, Nat.pow_add, Nat.mul_assoc, Nat.mul_comm (2 ^ m)]; omega
      rw [e, Nat.add_assoc m k p.2]
      exact ih _ _
  have := key l 0 0
  simpa using this

theorem valP_append (l m : List (Int × Int)) : valP (l ++ m) = ((valP l).1 + (valP m).1 * 2 ^ (valP l).2, (valP l).2 + (valP m).2) := by
  rw [valP, natP, List.map_append, putV_append]
  exact putV_shift _ _ _

theorem allOk_append (l m : List (Int × Int)) : allOk (l ++ m) = (allOk l && allOk m) := by simp [allOk]

/-- Numbers that are filled up to whole bytes. -/
theorem fill_law (a : List (Int × Int)) (ha : a.length ≤ 12) (h : lOk a = true) (p : Int) (hp : p = (8 - longI a % 8) % 8) :
    lOk (a ++ [(0, p)]) = true ∧ putS (a ++ [(0, p)]) = putS a ∧ (valP (a ++ [(0, p)])).2 % 8 = 0 := by
  have hall : allOk a = true := by simp only [lOk, Bool.and_eq_true] at h; exact h.1
  have hbits := valP_bits a hall
  rw [longI_yes h, ← hbits] at hp
  have hp0 : 0 ≤ p ∧ p ≤ 7 ∧ ((valP a).2 + p.toNat) % 8 = 0 := by omega
  have hpo : pOk 0 p = true := by
    have := p2_pos p.toNat
    rw [pOk_true]; exact ⟨⟨by omega, by omega⟩, by omega, by omega⟩
  have hok : lOk (a ++ [(0, p)]) = true := by
    simp only [lOk, Bool.and_eq_true, decide_eq_true_iff]
    refine ⟨by simp [allOk, hpo]; simpa [allOk] using hall, by simp; omega⟩
  have hv : valP (a ++ [(0, p)]) = ((valP a).1, (valP a).2 + p.toNat) := by
    rw [valP_append]; simp [valP, natP, putV]
  refine ⟨hok, ?_, by rw [hv]; exact hp0.2.2⟩
  rw [putS_yes hok, putS_yes h, textP, textP, hv]
  have hlt := valP_lt a hall
  rw [show ((valP a).2 + p.toNat + 7) / 8 = ((valP a).2 + 7) / 8 by omega]

theorem two_law (f b : List (Int × Int)) (hf : lOk f = true) (hb : lOk b = true) (hl : f.length + b.length ≤ 4000) (h8 : (valP f).2 % 8 = 0) : putS (f ++ b) = putS f ++ putS b := by
  have hfa : allOk f = true := by simp only [lOk, Bool.and_eq_true] at hf; exact hf.1
  have hba : allOk b = true := by simp only [lOk, Bool.and_eq_true] at hb; exact hb.1
  have hok : lOk (f ++ b) = true := by
    simp only [lOk, Bool.and_eq_true, decide_eq_true_iff, allOk_append]
    exact ⟨⟨hfa, hba⟩, by simpa using hl⟩
  rw [putS_yes hok, putS_yes hf, putS_yes hb, textP, textP, textP, valP_append]
  have hlt := valP_lt f hfa
  generalize valP f = F at *
  generalize valP b = B at *
  obtain ⟨V, m⟩ := F
  obtain ⟨W, k⟩ := B
  have h8' : m % 8 = 0 := h8
  have e : m = 8 * (m / 8) := by omega
  show leS ((m + k + 7) / 8) (V + W * 2 ^ m) = leS ((m + 7) / 8) V ++ leS ((k + 7) / 8) W
  rw [show (m + k + 7) / 8 = m / 8 + (k + 7) / 8 by omega, show (m + 7) / 8 = m / 8 by omega]
  have := leS_split (m / 8) ((k + 7) / 8) V W (by rw [← e]; exact hlt)
  rw [← e] at this
  exact this

/-- A number in two. -/
theorem half_val (V m n c k : Nat) : (V + n % 2 ^ c * 2 ^ m) + n / 2 ^ c * 2 ^ (m + c) = V + n * 2 ^ m ∧ (m + c) + k = m + (c + k) := by
  refine ⟨?_, by omega⟩
  rw [Nat.pow_add, Nat.mul_comm (2 ^ m), ← Nat.mul_assoc, Nat.add_assoc, ← Nat.add_mul]
  congr 2
  have := Nat.mod_add_div n (2 ^ c)
  rw [Nat.mul_comm] at this
  exact this

end Go.Proofs.Ytnomiopdpmecbaa
/- Plain mathematics: a text as a number, and the numbers that are read of it. -/
namespace Go.Proofs.Ytnomiopdpmecbaa
open Corb

theorem leS_valB (l : List UInt8) : leS l.length (valB l) = l := by
  apply List.ext_getElem
  · rw [leS_len]
  · intro j h1 h2
    have h := leS_get l.length (valB l) j h2
    rw [valB_get] at h
    rw [List.getD_eq_getElem?_getD, List.getElem?_eq_getElem h1, List.getD_eq_getElem?_getD, List.getElem?_eq_getElem h2] at h
    simpa using h

theorem valB_leS (k V : Nat) : valB (leS k V) = V % 2 ^ (8 * k) := by
  induction k with
  | zero => simp [leS, valB, Nat.mod_one]
  | succ k ih =>
    simp only [leS]
    rw [valB_append, ih, leS_len]
    have e : 2 ^ (8 * (k + 1)) = 2 ^ (8 * k) * 256 := by rw [Nat.mul_add, Nat.pow_add]
    rw [e, Nat.mod_mul]
    congr 2
    simp [valB]

theorem num_step (V p k : Nat) : V / 2 ^ p % 2 ^ (k + 1) = V / 2 ^ p % 2 ^ k + V / 2 ^ (p + k) % 2 * 2 ^ k := by
  rw [low_bits, Nat.div_div_eq_div_mul, ← Nat.pow_add]

def sumN (l : List Int) : Nat := (l.map Int.toNat).sum
theorem sumN_append (a b : List Int) : sumN (a ++ b) = sumN a + sumN b := by simp [sumN]
theorem sumN_cons (x : Int) (b : List Int) : sumN (x :: b) = x.toNat + sumN b := by simp [sumN]

def readV (V : Nat) : Nat → List Int → List Int
  | _, [] => []
  | p, b :: bs => ((V / 2 ^ p % 2 ^ b.toNat : Nat) : Int) :: readV V (p + b.toNat) bs
theorem readV_len (V p : Nat) (l : List Int) : (readV V p l).length = l.length := by
  induction l generalizing p with
  | nil => rfl
  | cons b l ih => simp [readV, ih]
theorem readV_append (V p : Nat) (a b : List Int) : readV V p (a ++ b) = readV V p a ++ readV V (p + sumN a) b := by
  induction a generalizing p with
  | nil => simp [readV, sumN]
  | cons x a ih => simp [readV, ih, sumN_cons, Nat.add_assoc]

def bitsOk (l : List Int) : Bool := l.all (fun b => decide (0 ≤ b) && decide (b ≤ 16))
def getOk (s : List UInt8) (l : List Int) : Bool := bitsOk l && decide (l.length ≤ 4000) && decide (s.length = (sumN l + 7) / 8) && decide (valB s < 2 ^ sumN l)
def getL (s : List UInt8) (l : List Int) : List Int := if getOk s l = true then readV (valB s) 0 l else []

theorem bitsOk_get {l : List Int} (h : bitsOk l = true) (k : Nat) (hk : k < l.length) : 0 ≤ l.getD k 0 ∧ l.getD k 0 ≤ 16 := by
  have := List.all_eq_true.1 h (l.getD k 0) (by simp [List.getD, hk])
  simpa using this
theorem sumN_bd {l : List Int} (h : bitsOk l = true) : sumN l ≤ 16 * l.length := by
  induction l with
  | nil => simp [sumN]
  | cons b l ih =>
    have h' : (0 ≤ b ∧ b ≤ 16) ∧ bitsOk l = true := by simpa [bitsOk] using h
    have := ih h'.2
    rw [sumN_cons, List.length_cons]
    omega

/-- What is left of the last byte is nought where the whole is of so many bits. -/
theorem rest_clear (s : List UInt8) (m : Nat) (h : s.length = (m + 7) / 8) : (valB s / 2 ^ m % 2 ^ ((8 - m % 8) % 8) = 0) ↔ valB s < 2 ^ m := by
  have hlt := valB_lt s
  have e : 8 * s.length = m + (8 - m % 8) % 8 := by omega
  rw [e, Nat.pow_add] at hlt
  have h2 : valB s / 2 ^ m < 2 ^ ((8 - m % 8) % 8) := Nat.div_lt_of_lt_mul hlt
  rw [Nat.mod_eq_of_lt h2]
  constructor
  · intro h0
    rcases Nat.div_eq_zero_iff.1 h0 with h | h
    · have := Nat.two_pow_pos m; omega
    · exact h
  · exact Nat.div_eq_of_lt

end Go.Proofs.Ytnomiopdpmecbaa
/- Plain mathematics: what was written is read back. -/
namespace Go.Proofs.Ytnomiopdpmecbaa
open Corb

def bitsOf (l : List (Int × Int)) : List Int := l.map (·.2)
def numsOf (l : List (Int × Int)) : List Int := l.map (·.1)
theorem bitsOf_len (l : List (Int × Int)) : (bitsOf l).length = l.length := by simp [bitsOf]
theorem numsOf_len (l : List (Int × Int)) : (numsOf l).length = l.length := by simp [numsOf]
theorem readV_shift (V p q : Nat) (l : List Int) : readV V (p + q) l = readV (V / 2 ^ p) q l := by
  induction l generalizing q with
  | nil => rfl
  | cons b l ih =>
    simp only [readV]
    rw [Nat.div_div_eq_div_mul, ← Nat.pow_add, ← ih, Nat.add_assoc]

theorem readV_put (l : List (Int × Int)) (W : Nat) (h : allOk l = true) : readV ((valP l).1 + W * 2 ^ (valP l).2) 0 (bitsOf l) = numsOf l := by
  induction l generalizing W with
  | nil => rfl
  | cons p l ih =>
    have h' : pOk p.1 p.2 = true ∧ allOk l = true := by simpa [allOk] using h
    obtain ⟨⟨b0, b1⟩, n0, n1⟩ := pOk_true.1 h'.1
    have e1 : valP [p] = (p.1.toNat, p.2.toNat) := by simp [valP, natP, putV]
    have e2 : valP (p :: l) = (p.1.toNat + (valP l).1 * 2 ^ p.2.toNat, p.2.toNat + (valP l).2) := by
      rw [show p :: l = [p] ++ l from rfl, valP_append, e1]
    have hn : p.1.toNat < 2 ^ p.2.toNat := by
      have : ((p2 p.2.toNat : Nat) : Int) = ((2 ^ p.2.toNat : Nat) : Int) := rfl
      omega
    have hV : (valP (p :: l)).1 + W * 2 ^ (valP (p :: l)).2 = p.1.toNat + ((valP l).1 + W * 2 ^ (valP l).2) * 2 ^ p.2.toNat := by
      rw [e2]
      simp only
      rw [Nat.pow_add, Nat.add_mul, Nat.add_assoc]
      congr 2
      rw [Nat.mul_comm (2 ^ p.2.toNat), Nat.mul_assoc]
    rw [hV]
    show ((((p.1.toNat + ((valP l).1 + W * 2 ^ (valP l).2) * 2 ^ p.2.toNat) / 2 ^ 0 % 2 ^ p.2.toNat : Nat) : Int)) :: readV _ (0 + p.2.toNat) (bitsOf l) = p.1 :: numsOf l
    rw [Nat.pow_zero, Nat.div_one, Nat.add_mul_mod_self_right, Nat.mod_eq_of_lt hn]
    rw [show 0 + p.2.toNat = p.2.toNat + 0 by omega, readV_shift, Nat.add_mul_div_right _ _ (Nat.two_pow_pos _), Nat.div_eq_of_lt hn, Nat.zero_add, ih W h'.2]
    congr 1
    omega

theorem bitsOf_ok {l : List (Int × Int)} (h : allOk l = true) : bitsOk (bitsOf l) = true := by
  simp only [allOk, List.all_eq_true] at h
  simp only [bitsOk, bitsOf, List.all_map, List.all_eq_true]
  intro p hp
  obtain ⟨⟨b0, b1⟩, _⟩ := pOk_true.1 (h p hp)
  simp [b0, b1]
theorem sumN_bits {l : List (Int × Int)} (h : allOk l = true) : sumN (bitsOf l) = (valP l).2 := by
  have h1 := valP_bits l h
  have h2 : (sumN (bitsOf l) : Int) = sumBits l := by
    clear h1
    induction l with
    | nil => rfl
    | cons p l ih =>
      have h' : pOk p.1 p.2 = true ∧ allOk l = true := by simpa [allOk] using h
      obtain ⟨⟨b0, b1⟩, _⟩ := pOk_true.1 h'.1
      have := ih h'.2
      simp only [bitsOf, List.map_cons, sumBits, List.sum_cons] at this ⊢
      rw [sumN_cons]
      omega
  omega

theorem putS_len' {l : List (Int × Int)} (h : lOk l = true) : (putS l).length = (sumN (bitsOf l) + 7) / 8 := by
  have ha : allOk l = true := by simp only [lOk, Bool.and_eq_true] at h; exact h.1
  rw [putS_yes h, textP, leS_len, sumN_bits ha]
theorem valB_put {l : List (Int × Int)} (h : lOk l = true) : valB (putS l) = (valP l).1 := by
  have ha : allOk l = true := by simp only [lOk, Bool.and_eq_true] at h; exact h.1
  rw [putS_yes h, textP, valB_leS, Nat.mod_eq_of_lt]
  exact Nat.lt_of_lt_of_le (valP_lt l ha) (Nat.pow_le_pow_right (by omega) (by omega))

/-- The number of so many bits that is read at its place. -/
theorem readV_get (V p : Nat) (l : List Int) (k : Nat) (h : k < l.length) : (readV V p l).getD k 0 = ((V / 2 ^ (p + sumN (l.take k)) % 2 ^ (l.getD k 0).toNat : Nat) : Int) := by
  induction l generalizing p k with
  | nil => simp at h
  | cons b l ih =>
    cases k with
    | zero => simp [readV, sumN]
    | succ k =>
      have := ih (p + b.toNat) k (by simpa using h)
      simp only [readV, List.getD_cons_succ, List.take_succ_cons, sumN_cons]
      rw [this, Nat.add_assoc]
theorem put_at {l : List (Int × Int)} (h : allOk l = true) (k : Nat) (hk : k < l.length) : (valP l).1 / 2 ^ sumN ((bitsOf l).take k) % 2 ^ (l.getD k (0, 0)).2.toNat = (l.getD k (0, 0)).1.toNat := by
  have e := readV_put l 0 h
  rw [Nat.zero_mul, Nat.add_zero] at e
  have g := readV_get (valP l).1 0 (bitsOf l) k (by rw [bitsOf_len]; exact hk)
  rw [e] at g
  have e1 : (numsOf l).getD k 0 = (l.getD k (0, 0)).1 := by simp [numsOf, List.getD, hk]
  have e2 : (bitsOf l).getD k 0 = (l.getD k (0, 0)).2 := by simp [bitsOf, List.getD, hk]
  rw [e1, e2, Nat.zero_add] at g
  omega

end Go.Proofs.Ytnomiopdpmecbaa
/- What the program's writer of bits holds, and its contract, over this seat's program. -/
namespace Go.Proofs.Ytnomiopdpmecbaa
open Go.RowKit Corb

theorem Two.kept {w w' : World} {b : Nat} {v0 v1 : Value} (h : Two w b v0 v1) (hb : Below (b + 1) w w') : Two w' b v0 v1 := by
  obtain ⟨c0, c1, f0, f1, hlt⟩ := h
  have hs := Nat.lt_succ_self b
  exact ⟨(hb.cell (p := ⟨b, 0, none⟩) hs).trans c0, (hb.cell (p := ⟨b, 1, none⟩) hs).trans c1, (hb.frozen (p := ⟨b, 0, none⟩) hs).trans f0, (hb.frozen (p := ⟨b, 1, none⟩) hs).trans f1, Nat.lt_of_lt_of_le hlt hb.size⟩

/-- The program's writer: the number V of m bits. -/
def WOut (w : World) (b V m : Nat) : Prop :=
  V < p2 m ∧ ∃ v, Two w b v (.int .i64 (m : Int)) ∧ Bys w b v (leS ((m + 7) / 8) V)

theorem push_two {w W2 WA w' : World} {b : Nat} {v v' v1 : Value} {l : List UInt8} {x : UInt8} (T2 : Two W2 b v v1) (Y2 : Bys W2 b v l) (B2 : Below b w W2)
    (hWA : Below (b + 1) W2 WA) (hown : w'.ownsRow (b + 1) 5 1 v' (l.length + 1) (bcells l ++ [.int .u8 (x.toNat : Int)])) (hgrow : WA.grownBy w' v.ownBlock) :
    (∃ g cap, v' = .slice (some ⟨g, 0, none⟩) (l.length + 1) cap) ∧ Two w' b v v1 ∧ Bys w' b v' (l ++ [x]) ∧ Below b w w' := by
  have hlt := T2.2.2.2.2
  have hlt2 := Nat.lt_of_lt_of_le hlt hWA.size
  have hblk : ∀ k, v.ownBlock = some k → b + 1 ≤ k := fun k hk => (Y2.lt k hk).1
  have hb : Below (b + 1) W2 w' := hWA.grown hgrow (by omega) hblk
  refine ⟨?_, T2.kept hb, ?_, B2.trans (hb.mono (by omega))⟩
  · rcases hown.2 with ⟨_, h0⟩ | ⟨g, cap, _, e, _⟩
    · omega
    · exact ⟨g, cap, e⟩
  · show w'.ownsRow (b + 1) 5 1 v' (l ++ [x]).length (bcells (l ++ [x]))
    simpa [bcells] using hown

/-- A byte of the row, and another one in its place. -/
theorem Bys.at {w : World} {b g cap j : Nat} {l : List UInt8} (h : Bys w b (.slice (some ⟨g, 0, none⟩) l.length cap) l) (hj : j < l.length) :
    w.cell? ⟨g, j, none⟩ = some (.int .u8 ((l.getD j 0).toNat : Int)) ∧ w.frozen? ⟨g, j, none⟩ = false ∧ b < g := by
  refine ⟨?_, World.ownsRow.frozenAt h j, (World.ownsRow.lt h g rfl).1⟩
  rw [World.ownsRow.cellAt h j (by omega)]
  simp [bcells, hj, List.getD]
theorem Bys.put {w : World} {b g cap j : Nat} {l : List UInt8} (h : Bys w b (.slice (some ⟨g, 0, none⟩) l.length cap) l) (x : UInt8) :
    Bys (w.setCell ⟨g, j, none⟩ (.int .u8 (x.toNat : Int))) b (.slice (some ⟨g, 0, none⟩) l.length cap) (l.set j x) := by
  have := World.ownsRow.stored h j (.int .u8 (x.toNat : Int))
  show World.ownsRow _ _ _ _ _ (l.set j x).length (bcells (l.set j x))
  rw [List.length_set]
  have e : bcells (l.set j x) = (bcells l).set j (.int .u8 (x.toNat : Int)) := by simp [bcells, List.map_set]
  rw [e]
  exact this.1

theorem wset (V m x : Nat) (hV : V < p2 m) (hx : x ≤ 1) :
    V + x * p2 m < p2 (m + 1) ∧ leS ((m + 1 + 7) / 8) (V + x * p2 m) = (leS (m / 8 + 1) V).set (m / 8) (UInt8.ofNat (V / p2 (8 * (m / 8)) + x * p2 (m % 8))) := by
  refine ⟨add_lt V x m hV hx, ?_⟩
  rw [show (m + 1 + 7) / 8 = m / 8 + 1 by omega]
  exact leS_set (m / 8) V x m rfl hx hV
theorem wpad (V m : Nat) (hV : V < p2 m) (hr : m % 8 = 0) : leS ((m + 7) / 8) V ++ [0] = leS (m / 8 + 1) V := by
  rw [show (m + 7) / 8 = m / 8 by omega]
  exact (leS_pad (m / 8) V (by rw [show 8 * (m / 8) = m by omega]; exact hV)).symm
theorem wsame (V m : Nat) (hr : m % 8 ≠ 0) : leS ((m + 7) / 8) V = leS (m / 8 + 1) V := by
  rw [show (m + 7) / 8 = m / 8 + 1 by omega]
theorem wbyte (V m : Nat) (hV : V < p2 m) : ((leS (m / 8 + 1) V).getD (m / 8) 0).toNat = V / p2 (8 * (m / 8)) := by
  rw [leS_get _ _ _ (by omega)]
  have h1 := last_bd V m hV
  have h2 := p2_le (m % 8) 7 (by omega)
  have h3 : p2 7 = 128 := rfl
  have e : V / 2 ^ (8 * (m / 8)) % 256 = V / p2 (8 * (m / 8)) := Nat.mod_eq_of_lt (by show V / p2 (8 * (m / 8)) < 256; omega)
  rw [e, byte_val _ (by omega)]

/-- A piece in a box of its own. -/
def Box (w : World) (P : Nat) (x y : Int) : Prop := w.heap[P]? = some (.cells #[.int .i64 x, .int .i64 y] 50)
theorem box_new (w : World) (x y : Int) : Box (w.alloc (.cells #[.int .i64 x, .int .i64 y] 50)) w.heap.size x y := by
  show (w.heap.push _)[w.heap.size]? = _
  simp
theorem Box.cells {w : World} {P : Nat} {x y : Int} (h : Box w P x y) : w.cell? ⟨P, 0, none⟩ = some (.int .i64 x) ∧ w.cell? ⟨P, 1, none⟩ = some (.int .i64 y) ∧ P < w.heap.size := by
  refine ⟨by simp [World.cell?, show w.heap[P]? = _ from h], by simp [World.cell?, show w.heap[P]? = _ from h], ?_⟩
  have h' : w.heap[P]? = some _ := h
  exact (Array.getElem?_eq_some_iff.1 h').1
theorem Box.ne {w : World} {P b : Nat} {x y : Int} {v : Value} {l : List UInt8} (h : Box w P x y) (hy : Bys w b v l) (k : Nat) (hk : v.ownBlock = some k) : k ≠ P := by
  rintro rfl
  rcases hy.2 with ⟨e, _⟩ | ⟨g, cap, cur, e, _, hg, _⟩
  · subst e; simp [Value.ownBlock] at hk
  · subst e
    simp only [Value.ownBlock, Option.some.injEq] at hk
    subst hk
    have h' : w.heap[g]? = some (.cells #[.int .i64 x, .int .i64 y] 50) := h
    rw [h'] at hg
    simp at hg
theorem Box.set {w : World} {P b o : Nat} {x y : Int} (h : Box w P x y) (hb : b ≠ P) (u : Value) : Box (w.setCell ⟨b, o, none⟩ u) P x y := by
  show (w.setCell ⟨b, o, none⟩ u).heap[P]? = _
  rw [Below.heap_setCell w ⟨b, o, none⟩ u P (fun e => hb e.symm)]
  exact h
theorem Box.drew {w : World} {P : Nat} {x y : Int} (h : Box w P x y) : Box w.drew P x y := h
theorem Box.alloc {w : World} {P : Nat} {x y : Int} (h : Box w P x y) (o : Obj) : Box (w.alloc o) P x y := by
  show (w.alloc o).heap[P]? = _
  rw [Below.heap_alloc w o P h.cells.2.2]
  exact h
theorem Box.grown {w w' : World} {P b : Nat} {x y : Int} {v : Value} {l : List UInt8} (h : Box w P x y) (hy : Bys w b v l) (hg : w.grownBy w' v.ownBlock) : Box w' P x y := by
  show w'.heap[P]? = _
  rw [hg.block P h.cells.2.2 (fun e => h.ne hy P e.symm rfl)]
  exact h

/-- What was there is there, but for one block and rows of bytes. -/
def Keep5 (b : Nat) (w w' : World) : Prop := w.heap.size ≤ w'.heap.size ∧ ∀ k, k < w.heap.size → k ≠ b → (∀ cur fr, w.heap[k]? ≠ some (.cells cur 5 fr)) → w'.heap[k]? = w.heap[k]?
theorem Keep5.refl (b : Nat) (w : World) : Keep5 b w w := ⟨Nat.le_refl _, fun _ _ _ _ => rfl⟩
theorem Keep5.trans {b : Nat} {w w1 w2 : World} (h : Keep5 b w w1) (k : Keep5 b w1 w2) : Keep5 b w w2 :=
  ⟨Nat.le_trans h.1 k.1, fun j hj hb ht => by
    have e := h.2 j hj hb ht
    rw [k.2 j (Nat.lt_of_lt_of_le hj h.1) hb (fun cur fr => by rw [e]; exact ht cur fr), e]⟩
theorem Keep5.drew {b : Nat} {w w' : World} (h : Keep5 b w w') : Keep5 b w w'.drew := h
theorem Keep5.alloc {b : Nat} {w w' : World} (h : Keep5 b w w') (o : Obj) : Keep5 b w (w'.alloc o) :=
  h.trans ⟨by simp, fun j hj _ _ => Below.heap_alloc w' o j hj⟩
theorem Keep5.set {b o : Nat} {w w' : World} (h : Keep5 b w w') (u : Value) : Keep5 b w (w'.setCell ⟨b, o, none⟩ u) :=
  h.trans ⟨by simp, fun j _ hb _ => Below.heap_setCell w' ⟨b, o, none⟩ u j hb⟩
theorem Keep5.setRow {b c g j cap : Nat} {w w' : World} {l : List UInt8} (h : Keep5 b w w') (hy : Bys w' c (.slice (some ⟨g, 0, none⟩) l.length cap) l) (u : Value) : Keep5 b w (w'.setCell ⟨g, j, none⟩ u) := by
  refine h.trans ⟨by simp, fun k _ _ ht => ?_⟩
  by_cases e : k = g
  · subst e
    rcases hy.2 with ⟨e, _⟩ | ⟨g', cap', cur, e, _, hg, _⟩
    · simp at e
    · simp only [Value.slice.injEq, Option.some.injEq, Addr.mk.injEq, and_true, true_and] at e
      obtain ⟨rfl, _⟩ := e
      exact absurd hg (ht cur (0, 0))
  · exact Below.heap_setCell w' ⟨g, j, none⟩ u k e
theorem Keep5.grown {b c : Nat} {w w' w'' : World} {v : Value} {l : List UInt8} (h : Keep5 b w w') (hy : Bys w' c v l) (hg : w'.grownBy w'' v.ownBlock) : Keep5 b w w'' := by
  refine h.trans ⟨hg.size, fun k hk _ ht => ?_⟩
  refine hg.block k hk (fun e => ?_)
  rcases hy.2 with ⟨e', _⟩ | ⟨g', cap', cur, e', _, hg', _⟩
  · subst e'; simp [Value.ownBlock] at e
  · subst e'
    simp only [Value.ownBlock, Option.some.injEq] at e
    subst e
    exact ht cur (0, 0) hg'

end Go.Proofs.Ytnomiopdpmecbaa
/- The contract of the program's writer of bits: a piece is written, over this seat's program. -/
namespace Go.Proofs.Ytnomiopdpmecbaa
open Go.RowKit Corb

theorem u8_or_join (B X r : Nat) (hB : B < p2 r) (hr : r < 8) (hX : X = 0 ∨ X = p2 r) : bits .or .u8 (B : Int) (X : Int) = ((B + X : Nat) : Int) := by
  have h7 := p2_le r 7 (by omega)
  have h3 : p2 7 = 128 := rfl
  rw [u8_or_nat B X (by omega) (by omega)]
  congr 1
  rw [Nat.or_comm]
  rcases hX with rfl | rfl
  · simp
  · rw [nat_join r (p2 r) B (by unfold p2; simp) hB]; omega

theorem Two.other {w : World} {b g o : Nat} {v0 v1 : Value} (h : Two w b v0 v1) (hg : g ≠ b) (u : Value) : Two (w.setCell ⟨g, o, none⟩ u) b v0 v1 := by
  obtain ⟨c0, c1, f0, f1, hb⟩ := h
  refine ⟨?_, ?_, by simpa using f0, by simpa using f1, by simpa using hb⟩
  · rw [World.cell?_setCell_other _ _ _ _ (by simp only [ne_eq, Addr.mk.injEq]; omega)]; exact c0
  · rw [World.cell?_setCell_other _ _ _ _ (by simp only [ne_eq, Addr.mk.injEq]; omega)]; exact c1

theorem wout_step {w wr : World} {b g cap V1 m1 x L X : Nat} {P : Nat} {p q : Int} (htr : Two wr b (.slice (some ⟨g, 0, none⟩) (leS (m1 / 8 + 1) V1).length cap) (.int .i64 (m1 : Int)))
    (hput : Bys (wr.setCell ⟨g, m1 / 8, none⟩ (.int .u8 ((UInt8.ofNat (L + X)).toNat : Int))) b (.slice (some ⟨g, 0, none⟩) (leS (m1 / 8 + 1) V1).length cap) ((leS (m1 / 8 + 1) V1).set (m1 / 8) (UInt8.ofNat (L + X))))
    (hw1 : V1 + x * p2 m1 < p2 (m1 + 1)) (hw2 : leS ((m1 + 1 + 7) / 8) (V1 + x * p2 m1) = (leS (m1 / 8 + 1) V1).set (m1 / 8) (UInt8.ofNat (L + X)))
    (hbv : (UInt8.ofNat (L + X)).toNat = L + X) (hgb : b < g) (hgP : g ≠ P) (hPb : P ≠ b) (hbox : Box wr P p q) (hbel : Below b w wr) (hby0 : Bys wr b (.slice (some ⟨g, 0, none⟩) (leS (m1 / 8 + 1) V1).length cap) (leS (m1 / 8 + 1) V1)) (hkp : Keep5 b w wr) :
    WOut ((wr.setCell ⟨g, m1 / 8, none⟩ (.int .u8 ((L : Int) + (X : Int)))).setCell ⟨b, 1, none⟩ (.int .i64 ((m1 : Int) + 1))).drew b (V1 + x * p2 m1) (m1 + 1) ∧
    Box ((wr.setCell ⟨g, m1 / 8, none⟩ (.int .u8 ((L : Int) + (X : Int)))).setCell ⟨b, 1, none⟩ (.int .i64 ((m1 : Int) + 1))).drew P p q ∧
    Below b w ((wr.setCell ⟨g, m1 / 8, none⟩ (.int .u8 ((L : Int) + (X : Int)))).setCell ⟨b, 1, none⟩ (.int .i64 ((m1 : Int) + 1))).drew ∧
    Keep5 b w ((wr.setCell ⟨g, m1 / 8, none⟩ (.int .u8 ((L : Int) + (X : Int)))).setCell ⟨b, 1, none⟩ (.int .i64 ((m1 : Int) + 1))).drew := by
  have e : ((UInt8.ofNat (L + X)).toNat : Int) = (L : Int) + (X : Int) := by rw [hbv]; omega
  rw [e] at hput
  refine ⟨⟨hw1, .slice (some ⟨g, 0, none⟩) (leS (m1 / 8 + 1) V1).length cap, ?_, ?_⟩, ?_, ?_, ?_⟩
  · exact ((htr.other (by omega) _).set1 _).drew
  · rw [hw2]
    exact (hput.set _).drew
  · exact ((hbox.set (by omega) _).set (by omega) _).drew
  · exact (below_set (below_set hbel (by omega) _) (Nat.le_refl _) _).drew
  · exact ((hkp.setRow hby0 _).set _).drew

set_option maxHeartbeats 6400000 in
theorem pass_any (b V m : Nat) (num bits : Int) (w : World) (h : WOut w b V m) (hp : pOk num bits = true) (hm : m ≤ 100000) :
    Calls Try.prog 71 #[.pointer (some ⟨b, 0, none⟩), .agg #[.int .i64 num, .int .i64 bits]] w fun e w' => e = .returned (.int .i64 num) ∧
      WOut w' b (V + num.toNat * p2 m) (m + bits.toNat) ∧ Below b w w' ∧ Keep5 b w w' := by
  obtain ⟨⟨b0, b1⟩, n0, n1⟩ := pOk_true.1 hp
  have hq := (pow_bd bits b1).2
  obtain ⟨n, rfl⟩ := Int.eq_ofNat_of_zero_le n0
  obtain ⟨c, rfl⟩ := Int.eq_ofNat_of_zero_le b0
  rw [Int.toNat_natCast, Int.toNat_natCast]
  rw [Int.toNat_natCast] at n1 hq
  have hnmod : Hid (n % p2 c = n) := Nat.mod_eq_of_lt (by omega)
  have hn2 : (n : Int) < 65536 := by omega
  obtain ⟨i0, hi, hz0, hz1, hz2⟩ := info_parts Try.infoByte
  have hbw : b < w.heap.size := by obtain ⟨_, v, ht, _⟩ := h; exact ht.2.2.2.2
  have hbox0 := box_new w (n : Int) (c : Int)
  have h0 : WOut (w.alloc (.cells #[.int .i64 (n : Int), .int .i64 (c : Int)] 50)) b V m := by
    obtain ⟨hV, v, ht, hy⟩ := h
    exact ⟨hV, v, ht.kept ((Below.refl _ _).alloc (by omega) _), World.ownsRow.alloc hy _⟩
  have hbel0 : Below b w (w.alloc (.cells #[.int .i64 (n : Int), .int .i64 (c : Int)] 50)) := (Below.refl _ _).alloc (by omega) _
  clear n1 hq h hp
  go_enter Try.func71, Try.ntmps71
  go_wp2_with fail
  go_loopw [5, 8] (fun _ i wr => ∃ k : Nat, k ≤ c ∧ i = .int .i64 k ∧ WOut wr b (V + n % p2 k * p2 m) (m + k) ∧ Box wr w.heap.size n c ∧ Below b w wr ∧ Keep5 b w wr) (fun _ i _ => c - (intOf i).toNat)
  case atStart => exact ⟨0, Nat.zero_le _, rfl, by simpa [p2, Nat.mod_one] using h0, hbox0, hbel0, (Keep5.refl _ _).alloc _⟩
  case round =>
    obtain ⟨k, hk, rfl, hout, hbox, hbel, hkp⟩ := hrel
    clear h0 hbox0 hbel0
    obtain ⟨bc0, bc1, bclt⟩ := hbox.cells
    by_cases hlt : k < c
    · have hval := hide (put_val V n k m)
      have hnk : n / p2 k ≤ n := Nat.div_le_self _ _
      have Hsh : Hid ((n : Int) / 2 ^ k = ((n / p2 k : Nat) : Int)) := (Int.natCast_ediv n (2 ^ k)).symm
      obtain ⟨hV, v, htr, hby⟩ := hout
      obtain ⟨sa, scap, rfl⟩ := hby.form
      have hlb := last_bd (V + n % p2 k * p2 m) (m + k) hV
      generalize V + n % p2 k * p2 m = V1 at *
      generalize hm1 : m + k = m1 at *
      have hx : n / p2 k % 2 ≤ 1 := by omega
      have hnkI : ((n / p2 k : Nat) : Int) < 65536 := by omega
      have hone := i64_and_one ((n / p2 k : Nat) : Int) (Int.natCast_nonneg _) (Int.lt_trans hnkI (by omega))
      have hxI : ((n / p2 k : Nat) : Int) % 2 = ((n / p2 k % 2 : Nat) : Int) := by omega
      rw [hxI] at hone
      have hp7 : p2 (m1 % 8) ≤ 128 := p2_le (m1 % 8) 7 (by omega)
      have hXle : n / p2 k % 2 * p2 (m1 % 8) ≤ 1 * p2 (m1 % 8) := Nat.mul_le_mul_right _ hx
      have hmul : ((n / p2 k % 2 : Nat) : Int) * (2 : Int) ^ (m1 % 8) = ((n / p2 k % 2 * p2 (m1 % 8) : Nat) : Int) := by rw [Int.natCast_mul, p2_int]
      have hX01 : n / p2 k % 2 * p2 (m1 % 8) = 0 ∨ n / p2 k % 2 * p2 (m1 % 8) = p2 (m1 % 8) := by
        rcases (show n / p2 k % 2 = 0 ∨ n / p2 k % 2 = 1 by omega) with e | e <;> rw [e] <;> simp
      obtain ⟨hw1, hw2⟩ := wset V1 m1 (n / p2 k % 2) hV hx
      have hwb := wbyte V1 m1 hV
      have hor := u8_or_join (V1 / p2 (8 * (m1 / 8))) (n / p2 k % 2 * p2 (m1 % 8)) (m1 % 8) hlb (by omega) hX01
      have hpad := hide (wpad V1 m1 hV)
      have hsame := hide (wsame V1 m1)
      have hlen : (leS (m1 / 8 + 1) V1).length = m1 / 8 + 1 := leS_len _ _
      have hlen0 : (leS ((m1 + 7) / 8) V1).length = (m1 + 7) / 8 := leS_len _ _
      have hm1le : m1 ≤ 100016 := by omega
      have hb256 : V1 / p2 (8 * (m1 / 8)) + n / p2 k % 2 * p2 (m1 % 8) < 256 := by omega
      have hbv := byte_val _ hb256
      have hkc : (k : Int) < (c : Int) := by omega
      have hk16 : (k : Int) ≤ 16 := by omega
      have hr0 : m1 % 8 = 0 ↔ ((m1 : Int) % 8 = 0) := by omega
      have hr8 : (m1 : Int) % 8 < 8 := by omega
      have hm1I : (m1 : Int) ≤ 100016 := by omega
      have hBI : ((V1 / p2 (8 * (m1 / 8)) : Nat) : Int) < 256 := by omega
      have hXI : ((n / p2 k % 2 * p2 (m1 % 8) : Nat) : Int) ≤ 128 := by omega
      have hx1I : ((n / p2 k % 2 : Nat) : Int) ≤ 1 := by omega
      have Hm1 := hide hm1
      have HK := hide hk
      have Hlen := hide hlen
      have Hlen0 := hide hlen0
      have Hm1le := hide hm1le
      have Hw1 := hide hw1
      have Hw2 := hide hw2
      have Hwb := hide hwb
      have Hbv := hide hbv
      have hsh := unhide Hsh
      clear Hsh hxI hX01 hlb hp7 hXle hw1 hw2 hwb hlen hlen0 hm1le hb256 hbv hnk hx hm1 hk hV hlt
      generalize n / p2 k = nk at *
      generalize nk % 2 = x at *
      generalize x * p2 (m1 % 8) = X at *
      generalize V1 / p2 (8 * (m1 / 8)) = L at *
      have htr' := hide htr
      obtain ⟨k0, k1, f0, f1, hbw'⟩ := htr
      have hPb : w.heap.size ≠ b := by omega
      by_cases hr : m1 % 8 = 0
      · have hrI : ((m1 : Int) % 8 == 0) = true := by simp; omega
        have hpd := hide (unhide hpad hr)
        clear hr0 hr hpad hsame hr8 hm
        have hl0 : (leS ((m1 + 7) / 8) V1).length ≤ 20000 := by have := unhide Hlen0; have := unhide Hm1le; omega
        have Hl0 := hide hl0
        clear hl0
        go_wp2_with (at_builtin; refine wpList_append_own _ rfl _ _ 22 rfl (b + 1) 5 i0 (.int .u8 0) 1 1 Try.underlying22 hi hz0 hz1 hz2 rfl (by decide) _ _ _ rfl (World.ownsRow.alloc hby _) ⟨wr.heap.size, 0, none⟩ 1 1 [.int .u8 0] rfl rfl (by intro j u hj; match j, hj with | 0, hj => simp at hj; subst hj; simp [Addr.add]) (by intro u hu; simp at hu; subst hu; rfl) (by have := unhide Hl0; unfold maxLen; omega) (by have := unhide Hl0; omega) (by simp; omega) ?_; intro v' w' hown hgrow hnil; clear hnil; have hbox' := (hbox.alloc _).grown (World.ownsRow.alloc hby _) hgrow; have hkp' := (hkp.alloc (.cells #[.int .u8 0] 5)).grown (World.ownsRow.alloc hby _) hgrow; obtain ⟨⟨g, cap, rfl⟩, T3, Y3, B3⟩ := push_two (x := 0) (unhide htr') hby hbel ((Below.refl _ _).alloc (by omega) _) hown hgrow; clear hown hgrow hby hbox hbel hkp htr' k0 k1 f0 f1; have T3' := hide T3; obtain ⟨k0, k1, f0, f1, hb3⟩ := T3)
        have hlenA : (leS ((m1 + 7) / 8) V1).length + 1 = (leS (m1 / 8 + 1) V1).length := by rw [← unhide hpd, List.length_append]; rfl
        rw [hlenA] at Y3 ⊢
        have T4 := (unhide T3').set0 (.slice (some ⟨g, 0, none⟩) (leS (m1 / 8 + 1) V1).length cap)
        have hby := Y3.set (o := 0) (.slice (some ⟨g, 0, none⟩) (leS (m1 / 8 + 1) V1).length cap)
        rw [unhide hpd] at hby
        have hbox := hbox'.set (b := b) (o := 0) (by omega) (.slice (some ⟨g, 0, none⟩) (leS (m1 / 8 + 1) V1).length cap)
        have hkp := hkp'.set (o := 0) (.slice (some ⟨g, 0, none⟩) (leS (m1 / 8 + 1) V1).length cap)
        have hbel : Below b w _ := below_set B3 (o := 0) (Nat.le_refl _) (.slice (some ⟨g, 0, none⟩) (leS (m1 / 8 + 1) V1).length cap)
        clear Y3 B3 T3' k0 k1 f0 f1 hbox' hkp' bc0 bc1 bclt hlenA hb3
        generalize w'.setCell ⟨b, 0, none⟩ (.slice (some ⟨g, 0, none⟩) (leS (m1 / 8 + 1) V1).length cap) = wA at *
        have htr' := hide T4
        obtain ⟨k0, k1, f0, f1, hb3⟩ := T4
        obtain ⟨bc0, bc1, bclt⟩ := hbox.cells
        obtain ⟨gc, gf, gb⟩ := hby.at (j := m1 / 8) (by have := unhide Hlen; omega)
        rw [unhide Hwb] at gc
        have hput := hide (hby.put (j := m1 / 8) (UInt8.ofNat (L + X)))
        have hgP : g ≠ w.heap.size := hbox.ne hby g rfl
        have Hby := hide hby
        have Hkp := hide hkp
        clear hkp
        have hlenN := unhide Hlen
        rw [hlenN] at k0
        generalize hN : m1 / 8 + 1 = N at k0
        have hNI : (N : Int) = (m1 : Int) / 8 + 1 := by omega
        have hidx : (m1 : Int) / 8 < (N : Int) := by omega
        have hgb : g ≠ b := by omega
        clear hN hNI hlenN hby
        go_region
        all_goals
          go_wp2
          go_roundw
          case rel =>
            have hst := wout_step (unhide htr') (unhide hput) (unhide Hw1) (unhide Hw2) (unhide Hbv) gb hgP hPb hbox hbel (unhide Hby) (unhide Hkp)
            refine ⟨k + 1, by have := unhide HK; omega, by go_num, ?_, hst.2.1, hst.2.2.1, hst.2.2.2⟩
            rw [unhide hval, show m + (k + 1) = m1 + 1 by have := unhide Hm1; omega]
            exact hst.1
          case measure => simp [intOf]; omega
      · have hrI : ((m1 : Int) % 8 == 0) = false := by simp; omega
        have hsm := unhide hsame hr
        rw [hsm] at hby k0 htr'
        obtain ⟨g, cap, hform⟩ : ∃ g cap, Value.slice sa (leS (m1 / 8 + 1) V1).length scap = .slice (some ⟨g, 0, none⟩) (leS (m1 / 8 + 1) V1).length cap := by
          rcases hby.2 with ⟨_, h0⟩ | ⟨g, cap, _, e, _⟩
          · have := unhide Hlen; omega
          · exact ⟨g, cap, e⟩
        rw [hform] at hby k0 htr'
        obtain ⟨gc, gf, gb⟩ := hby.at (j := m1 / 8) (by have := unhide Hlen; omega)
        rw [unhide Hwb] at gc
        have hput := hide (hby.put (j := m1 / 8) (UInt8.ofNat (L + X)))
        have hgP : g ≠ w.heap.size := hbox.ne hby g rfl
        have Hby := hide hby
        have Hkp := hide hkp
        clear hkp
        have hlenN := unhide Hlen
        rw [hlenN] at k0
        generalize hN : m1 / 8 + 1 = N at k0
        have hNI : (N : Int) = (m1 : Int) / 8 + 1 := by omega
        have hidx : (m1 : Int) / 8 < (N : Int) := by omega
        have HN := hide hN
        have HNI := hide hNI
        have hgb : g ≠ b := by omega
        have Hf := hide hform
        clear hN hNI hlenN hform hsm hr0 hr hpad hsame hby hm hr8
        go_wp2_with fail
        go_region
        all_goals
          go_wp2
          go_roundw
          case rel =>
            have hst := wout_step (unhide htr') (unhide hput) (unhide Hw1) (unhide Hw2) (unhide Hbv) gb hgP hPb hbox hbel (unhide Hby) (unhide Hkp)
            refine ⟨k + 1, by have := unhide HK; omega, by go_num, ?_, hst.2.1, hst.2.2.1, hst.2.2.2⟩
            rw [unhide hval, show m + (k + 1) = m1 + 1 by have := unhide Hm1; omega]
            exact hst.1
          case measure => simp [intOf]; omega
    · have hkc : k = c := by omega
      subst hkc
      rw [unhide hnmod] at hout
      go_wp2
      go_ret
      exact ⟨rfl, hout, hbel, hkp⟩

end Go.Proofs.Ytnomiopdpmecbaa
/- The contract of the program's BitsPut, over this seat's program. -/
namespace Go.Proofs.Ytnomiopdpmecbaa
open Go.RowKit Corb

/-- A row of ints of the call's own, behind block b. -/
def Ints (w : World) (b : Nat) (v : Value) (xs : List Int) : Prop := w.ownsRow (b + 1) 3 1 v xs.length (xs.map (Value.int .i64))

theorem Ints.keep {w w' : World} {b : Nat} {v : Value} {xs : List Int} (h : Ints w b v xs) (hk : Keep5 b w w') : Ints w' b v xs := by
  refine ⟨h.1, ?_⟩
  rcases h.2 with e | ⟨g, cap, cur, e, hb, hg, hr⟩
  · exact .inl e
  · refine .inr ⟨g, cap, cur, e, hb, ?_, hr⟩
    rw [hk.2 g (Array.getElem?_eq_some_iff.1 hg).1 (by omega) (fun cur' fr => by rw [hg]; simp)]
    exact hg
theorem Bys.other {w w' : World} {b c : Nat} {v o : Value} {l : List UInt8} {xs : List Int} (h : Bys w b v l) (ho : Ints w c o xs) (hg : w.grownBy w' o.ownBlock) : Bys w' b v l := by
  refine World.ownsRow.kept h hg ?_
  cases hv : v.ownBlock with
  | none => exact .inl rfl
  | some k =>
    refine .inr (fun e => ?_)
    rcases h.2 with ⟨e1, _⟩ | ⟨g, cap, cur, e1, _, hg1, _⟩
    · subst e1; simp [Value.ownBlock] at hv
    · rcases ho.2 with ⟨e2, _⟩ | ⟨g2, cap2, cur2, e2, _, hg2, _⟩
      · subst e2; simp [Value.ownBlock] at e
      · subst e1 e2
        simp only [Value.ownBlock, Option.some.injEq] at hv e
        subst hv
        subst e
        rw [hg1] at hg2
        simp at hg2
theorem WOut.alloc {w : World} {b V m : Nat} (h : WOut w b V m) (o : Obj) : WOut (w.alloc o) b V m := by
  obtain ⟨hV, v, ht, hy⟩ := h
  exact ⟨hV, v, ht.kept ((Below.refl _ _).alloc (by have := ht.2.2.2.2; omega) _), World.ownsRow.alloc hy _⟩
theorem WOut.other {w w' : World} {b V m : Nat} {o : Value} {xs : List Int} (h : WOut w b V m) (ho : Ints w b o xs) (hg : w.grownBy w' o.ownBlock) : WOut w' b V m := by
  obtain ⟨hV, v, ht, hy⟩ := h
  exact ⟨hV, v, ht.kept ((Below.refl _ _).grown hg (by have := ht.2.2.2.2; omega) (fun k hk => (World.ownsRow.lt ho k hk).1)), hy.other ho hg⟩
theorem WOut.lt {w : World} {b V m : Nat} (h : WOut w b V m) : b < w.heap.size := by
  obtain ⟨hV, v, ht, hy⟩ := h
  exact ht.2.2.2.2

theorem methPassW (a : Addr) (w : World) : (method 208 60 (.pointer (some a)) "loop.example/corbel/impl.pass").run Try.prog w = .ok (71, .pointer (some a)) w := by kernel_rfl

set_option maxHeartbeats 3200000 in
theorem eachW_any (b : Nat) (a : Option Addr) (cap : Nat) (l : List (Int × Int)) (w0 w : World) (h : PRow w0 a l) (h0 : Below b w0 w) (hs : w0.heap.size ≤ b) (hok : lOk l = true) (hw : WOut w b 0 0) :
    Calls Try.prog 44 #[.slice a l.length cap, .func (.method "loop.example/corbel/impl.pass") #[.iface 60 (.pointer (some ⟨b, 0, none⟩))] #[]] w fun e w' =>
      (∃ v, e = .returned v) ∧ WOut w' b (valP l).1 (valP l).2 ∧ Below b w w' := by
  simp only [lOk, Bool.and_eq_true, decide_eq_true_iff] at hok
  obtain ⟨hall, h4⟩ := hok
  have hall' := hide hall
  have H4 := hide h4
  have h4' : (l.length : Int) ≤ 4000 := by omega
  clear hall h4
  obtain ⟨i0, hi, hz0, hz1, hz2⟩ := info_parts Try.infoInt
  have mp := methPassW ⟨b, 0, none⟩
  go_enter Try.func44, Try.ntmps44
  go_wp2_with fail
  go_loopw [5, 7, 10] (fun o _ i wr => ∃ (k : Nat) (xs : List Int), k ≤ l.length ∧ i = .int .i64 k ∧ xs.length = k ∧ Ints wr b o xs ∧ WOut wr b (valP (l.take k)).1 (valP (l.take k)).2 ∧ Below b w wr) (fun _ _ i _ => l.length - (intOf i).toNat)
  case atStart => exact ⟨0, [], Nat.zero_le _, rfl, rfl, World.ownsRow_nil _ _ _ _, hw, Below.refl _ _⟩
  case round =>
    obtain ⟨k, xs, hk, rfl, hxs, hints, hout, hbel⟩ := hrel
    have hltb := hout.lt
    by_cases hlt : k < l.length
    · obtain ⟨g, o, rfl, hg, hc⟩ := (h.below hs (h0.trans hbel)) (by omega)
      obtain ⟨c0, c1⟩ := hc k hlt
      have hmb := valP_bits (l.take k) (allOk_take_true (unhide hall') k)
      obtain ⟨s0, s1⟩ := sum_bd (allOk_take_true (unhide hall') k)
      have s2 : ((l.take k).length : Int) ≤ 4000 := by simp; omega
      have hml : Hid ((valP (l.take k)).2 ≤ 64000) := by show (valP (l.take k)).2 ≤ 64000; omega
      have hpk := hide (allOk_get (unhide hall') k hlt)
      have hstep := hide (valP_take l k hlt)
      have HK := hide hk
      have HX := hide hxs
      clear hmb s0 s1 s2 hc hk hxs hw
      generalize (l.getD k (0, 0)).1 = x at *
      generalize (l.getD k (0, 0)).2 = y at *
      generalize valP (l.take k) = S at *
      go_wp2_with fail
      refine (pass_any b S.1 S.2 x y _ (hout.alloc _) (unhide hpk) (by have := unhide hml; omega)).mono ?_
      rintro e w1 ⟨rfl, hout1, hbel1, hkp1⟩
      have hints1 : Ints w1 b u5 xs := Ints.keep (World.ownsRow.alloc hints _) hkp1
      have hbel2 := (hbel.alloc (Nat.le_of_lt hltb) (.cells #[.int .i64 x, .int .i64 y] 50)).trans hbel1
      have hlt1 := hout1.lt
      clear hout hints hbel hbel1 hkp1
      go_wp2_with (at_builtin; refine wpList_append_own _ rfl _ _ 23 rfl (b + 1) 3 i0 (.int .i64 0) 1 8 Try.underlying23 hi hz0 hz1 hz2 rfl (by decide) _ _ _ rfl (World.ownsRow.alloc hints1 _) ⟨w1.heap.size, 0, none⟩ 1 1 [.int .i64 x] rfl rfl (by intro j u hj; match j, hj with | 0, hj => simp at hj; subst hj; simp [Addr.add]) (by intro u hu; simp at hu; subst hu; rfl) (by have := unhide HX; have := unhide H4; unfold maxLen; omega) (by have := unhide HX; have := unhide H4; omega) (by simp; omega) ?_; intro v' w2 hown hgrow hnil; clear hnil)
      have hout2 : WOut w2 b _ _ := (hout1.alloc (.cells #[.int .i64 x] 3)).other (World.ownsRow.alloc hints1 _) hgrow
      have hints2 : Ints w2 b v' (xs ++ [x]) := by
        show World.ownsRow _ _ _ _ _ (xs ++ [x]).length _
        simpa using hown
      have hbel3 : Below b w w2 := (hbel2.alloc (Nat.le_of_lt hlt1) _).grown hgrow (by simp; omega) (fun j hj => Nat.le_of_lt (World.ownsRow.lt hints1 j hj).1)
      clear hown hgrow hints1 hout1 hbel2
      go_wp2
      go_roundw
      case rel => exact ⟨k + 1, xs ++ [x], by have := unhide HK; omega, by go_num, by have := unhide HX; simp; omega, hints2, by rw [unhide hstep]; exact hout2, hbel3⟩
      case measure => simp [intOf]; omega
    · have hlk : Hid (l.take k = l) := List.take_of_length_le (by omega)
      clear h hw
      obtain ⟨va, vc, rfl⟩ : ∃ va vc, u5 = .slice va xs.length vc := by
        rcases hints.2 with ⟨e, h0⟩ | ⟨g, cp, _, e, _⟩
        · exact ⟨none, 0, by rw [e, h0]⟩
        · exact ⟨_, cp, e⟩
      go_wp2
      go_ret
      rw [unhide hlk] at hout
      exact ⟨⟨_, rfl⟩, hout, hbel⟩

set_option maxHeartbeats 800000 in
theorem walkW_any (b : Nat) (a : Option Addr) (cap : Nat) (l : List (Int × Int)) (w0 w : World) (h : PRow w0 a l) (h0 : Below b w0 w) (hs : w0.heap.size ≤ b) (hok : lOk l = true) (hw : WOut w b 0 0) :
    Calls Try.prog 30 #[.iface 60 (.pointer (some ⟨b, 0, none⟩)), .slice a l.length cap] w fun e w' =>
      (∃ v, e = .returned v) ∧ WOut w' b (valP l).1 (valP l).2 ∧ Below b w w' := by
  go_enter Try.func30, Try.ntmps30
  go_wp2_with fail
  refine (eachW_any b a cap l w0 _ h h0 hs hok hw).mono ?_
  rintro e w1 ⟨⟨v, rfl⟩, hout, hbel⟩
  go_wp2
  go_ret
  exact ⟨⟨_, rfl⟩, hout, hbel⟩

theorem wout_new (w : World) (t : TypeId) : WOut (w.alloc (.cells #[.slice none 0 0, .int .i64 0] t)) w.heap.size 0 0 :=
  ⟨by decide, .slice none 0 0, ⟨by simp, by simp, by simp, by simp, by simp⟩, World.ownsRow_nil _ _ _ _⟩

set_option maxHeartbeats 800000 in
theorem implBitsPut_any (a : Option Addr) (cap : Nat) (l : List (Int × Int)) (w : World) (h : PRow w a l) (hm : l.length ≤ 1000000000) :
    Calls Try.prog 12 #[.slice a l.length cap] w fun e w' => e = .returned (.string ⟨(putS l).toArray⟩) ∧ Below w.heap.size w w' := by
  cases hok : lOk l
  · have HI := hide (putS_no hok)
    have HL := longI_no hok
    go_enter Try.func12, Try.ntmps12
    go_wp2_with (go_at_call 14; refine (implBitsLong_any _ _ _ _ h hm).mono ?_; rintro e w1 ⟨rfl, hb1⟩; rw [HL])
    go_ret
    exact ⟨ret_str (a := []) (unhide HI).symm, hb1⟩
  · have HI := hide (putS_yes hok)
    have HL := longI_yes hok
    have hall : allOk l = true := by simp only [lOk, Bool.and_eq_true] at hok; exact hok.1
    obtain ⟨s0, _⟩ := sum_bd hall
    generalize sumBits l = sb at *
    clear hall
    go_enter Try.func12, Try.ntmps12
    go_wp2_with fail
    refine (implBitsLong_any _ _ _ _ h hm).mono ?_
    rintro e w1 ⟨rfl, hb1⟩
    rw [HL]
    clear HL
    have h1 := h.later hb1
    go_wp2_with fail
    refine (walkW_any w1.heap.size a cap l w1 _ h1 ((Below.refl _ _).alloc (Nat.le_refl _) _) (Nat.le_refl _) hok (wout_new w1 _)).mono ?_
    rintro e w2 ⟨⟨v0, rfl⟩, ⟨_, v, T, Y⟩, hb2⟩
    have hconv := conv_bytes Y
    obtain ⟨va, vc, rfl⟩ := Y.form
    obtain ⟨k0, k1, f0, f1, hb3⟩ := T
    clear k1 Y
    generalize hres : (leS (((valP l).2 + 7) / 8) (valP l).1) = res at *
    have HR : Hid (res = putS l) := by have h := unhide HI; rw [h, ← hres]; exact rfl
    clear hres
    go_wp2
    go_ret
    exact ⟨ret_str (unhide HR), bnext hb1 (((Below.refl _ _).alloc (Nat.le_refl _) _).trans hb2)⟩

end Go.Proofs.Ytnomiopdpmecbaa
/- Pieces put and counted by the program, with their number as a letter. -/
namespace Go.Proofs.Ytnomiopdpmecbaa
open Go.RowKit Corb

theorem implBitsPut_n (a : Option Addr) (cap n : Nat) (l : List (Int × Int)) (w : World) (hn : l.length = n) (h : PRow w a l) (hm : n ≤ 1000000000) :
    Calls Try.prog 12 #[.slice a n cap] w fun e w' => e = .returned (.string ⟨(putS l).toArray⟩) ∧ Below w.heap.size w w' := by
  subst hn; exact implBitsPut_any a cap l w h hm
theorem implBitsLong_n (a : Option Addr) (cap n : Nat) (l : List (Int × Int)) (w : World) (hn : l.length = n) (h : PRow w a l) (hm : n ≤ 1000000000) :
    Calls Try.prog 14 #[.slice a n cap] w fun e w' => e = .returned (.int .i64 (longI l)) ∧ Below w.heap.size w w' := by
  subst hn; exact implBitsLong_any a cap l w h hm

end Go.Proofs.Ytnomiopdpmecbaa
/- How long a text of pieces is. -/
namespace Go.Proofs.Ytnomiopdpmecbaa
open Go.RowKit Corb

theorem putS_len (l : List (Int × Int)) (h : l.length ≤ 4000) : (putS l).length ≤ 8001 := by
  cases hk : lOk l
  · rw [putS_no hk]; simp
  · rw [putS_yes hk, textP, leS_len]
    simp only [lOk, Bool.and_eq_true] at hk
    have h1 := valP_bits l hk.1
    have h2 := sum_bd hk.1
    omega

end Go.Proofs.Ytnomiopdpmecbaa
