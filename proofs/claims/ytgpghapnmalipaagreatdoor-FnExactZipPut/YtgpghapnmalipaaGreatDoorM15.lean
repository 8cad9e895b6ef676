/- Of what the proof is made: 17 texts, one behind the other. -/
import Derived.Test.YtgpghapnmalipaaGreatDoorRb1
import Derived.Test.YtgpghapnmalipaaGreatDoorM6
import Derived.Test.YtgpghapnmalipaaGreatDoorM5
import Derived.Test.YtgpghapnmalipaaGreatDoorM1
import Derived.Test.YtgpghapnmalipaaGreatDoorStepLaw
import Derived.Deep.CutRange
import Derived.Laws.IdiomStrings
import Derived.Laws.OwnMore
import Derived.Deep.RegionHeld3
import Derived.Test.YtgpghapnmalipaaGreatDoorM2
namespace Go.Proofs.YtgpghapnmalipaaGreatDoor
open Go.RowKit Corb
def Bys (w : World) (b : Nat) (v : Value) (l : List UInt8) : Prop := w.ownsRow (b + 1) 5 1 v l.length (bcells l)
theorem Bys.form {w : World} {b : Nat} {v : Value} {l : List UInt8} (h : Bys w b v l) : ∃ a cap, v = .slice a l.length cap := by
  rcases h.2 with ⟨e, h0⟩ | ⟨g, cap, _, e, _⟩
  · exact ⟨none, 0, by rw [e, h0]⟩
  · exact ⟨_, cap, e⟩
theorem Bys.set {w : World} {b o : Nat} {v : Value} {l : List UInt8} (h : Bys w b v l) (u : Value) : Bys (w.setCell ⟨b, o, none⟩ u) b v l :=
  ownsRow_setCell_below h (a := ⟨b, o, none⟩) (Nat.lt_succ_self b) u
theorem Bys.drew {w : World} {b : Nat} {v : Value} {l : List UInt8} (h : Bys w b v l) : Bys w.drew b v l := h
def Out (w : World) (b V m : Nat) : Prop :=
  V < p2 m ∧ ∃ v, Three w b v (.int .i64 (V / p2 (8 * (m / 8)) : Nat)) (.int .i64 (m % 8 : Nat)) ∧ Bys w b v (leS (m / 8) V)
theorem out_room (V m x : Nat) (hV : V < p2 m) (hx : x ≤ 1) (hr : m % 8 < 7) :
    V + x * p2 m < p2 (m + 1) ∧ (V + x * p2 m) / p2 (8 * ((m + 1) / 8)) = V / p2 (8 * (m / 8)) + x * p2 (m % 8) ∧ leS ((m + 1) / 8) (V + x * p2 m) = leS (m / 8) V := by
  refine ⟨add_lt V x m hV hx, ?_, ?_⟩
  · rw [show (m + 1) / 8 = m / 8 by omega]
    have := div_add V x m (m / 8) (by omega)
    rw [show m - 8 * (m / 8) = m % 8 by omega] at this
    exact this
  · rw [show (m + 1) / 8 = m / 8 by omega]
    exact leS_add (m / 8) V x m (by omega)
theorem out_full (V m x : Nat) (hV : V < p2 m) (hx : x ≤ 1) (hr : m % 8 = 7) :
    V + x * p2 m < p2 (m + 1) ∧ (V + x * p2 m) / p2 (8 * ((m + 1) / 8)) = 0 ∧ (m + 1) % 8 = 0 ∧
      leS ((m + 1) / 8) (V + x * p2 m) = leS (m / 8) V ++ [UInt8.ofNat (V / p2 (8 * (m / 8)) + x * p2 (m % 8))] := by
  have h1 := add_lt V x m hV hx
  refine ⟨h1, ?_, by omega, ?_⟩
  · apply Nat.div_eq_of_lt
    have : p2 (8 * ((m + 1) / 8)) = 2 ^ (m + 1) := by unfold p2; rw [show 8 * ((m + 1) / 8) = m + 1 by omega]
    rw [this]; exact h1
  · rw [show (m + 1) / 8 = m / 8 + 1 by omega]
    have a := leS_add (m / 8) V x m (by omega)
    have d := div_add V x m (m / 8) (by omega)
    rw [show m - 8 * (m / 8) = m % 8 by omega] at d
    have hl := high_lt (V + x * 2 ^ m) (m + 1) (m / 8) h1 (by omega)
    rw [show m + 1 - 8 * (m / 8) = 8 by omega] at hl
    show leS (m / 8) (V + x * 2 ^ m) ++ [UInt8.ofNat ((V + x * 2 ^ m) / 2 ^ (8 * (m / 8)) % 256)] = _
    rw [Nat.mod_eq_of_lt hl, a, d]
    rfl
theorem last_bd (V m : Nat) (hV : V < p2 m) : V / p2 (8 * (m / 8)) < p2 (m % 8) := by
  have := high_lt V m (m / 8) hV (by omega)
  rw [show m - 8 * (m / 8) = m % 8 by omega] at this
  exact this
theorem byte_val (k : Nat) (h : k < 256) : (UInt8.ofNat k).toNat = k := by
  have : k % 256 = k := Nat.mod_eq_of_lt h
  simp [this]
theorem push_after {w W2 WA w' : World} {b : Nat} {v v' v1 v2 : Value} {l : List UInt8} {x : UInt8} (T2 : Three W2 b v v1 v2) (Y2 : Bys W2 b v l) (B2 : Below b w W2)
    (hWA : Below (b + 1) W2 WA) (hown : w'.ownsRow (b + 1) 5 1 v' (l.length + 1) (bcells l ++ [.int .u8 (x.toNat : Int)])) (hgrow : WA.grownBy w' v.ownBlock) :
    (∃ g cap, v' = .slice (some ⟨g, 0, none⟩) (l.length + 1) cap) ∧ Three w' b v v1 v2 ∧ Bys w' b v' (l ++ [x]) ∧ Below b w w' := by
  have hlt := T2.2.2.2.2.2.2
  have hlt2 := Nat.lt_of_lt_of_le hlt hWA.size
  have hblk : ∀ k, v.ownBlock = some k → b + 1 ≤ k := fun k hk => (Y2.lt k hk).1
  have hb : Below (b + 1) W2 w' := hWA.grown hgrow (by omega) hblk
  refine ⟨?_, T2.kept hb, ?_, B2.trans (hb.mono (by omega))⟩
  · rcases hown.2 with ⟨_, h0⟩ | ⟨g, cap, _, e, _⟩
    · omega
    · exact ⟨g, cap, e⟩
  · show w'.ownsRow (b + 1) 5 1 v' (l ++ [x]).length (bcells (l ++ [x]))
    simpa [bcells] using hown
end Go.Proofs.YtgpghapnmalipaaGreatDoor
namespace Go.Proofs.YtgpghapnmalipaaGreatDoor
open Go.RowKit Corb
theorem put_bits (n k : Nat) : n % p2 (k + 1) = n % p2 k + n / p2 k % 2 * p2 k := low_bits n k
theorem put_val (V n k m : Nat) : V + n % p2 (k + 1) * p2 m = V + n % p2 k * p2 m + n / p2 k % 2 * p2 (m + k) := by
  rw [put_bits, Nat.add_mul, Nat.mul_assoc, show p2 k * p2 m = p2 (m + k) by unfold p2; rw [← Nat.pow_add, Nat.add_comm]]
  omega
theorem half_pow (n k : Nat) : n / p2 k / 2 = n / p2 (k + 1) := div_pow_succ n k
set_option maxHeartbeats 3200000 in
theorem put_any (b V m : Nat) (num bits : Int) (w : World) (h : Out w b V m) (n0 : 0 ≤ num) (n1 : num < 65536) (b0 : 0 ≤ bits) (b1 : bits ≤ 16) (hm : m ≤ 100000) :
    Calls Tryz.prog 117 #[.pointer (some ⟨b, 0, none⟩), .int .i64 num, .int .i64 bits] w fun e w' => e = .returned (.tuple #[]) ∧
      Out w' b (V + num.toNat % p2 bits.toNat * p2 m) (m + bits.toNat) ∧ Below b w w' := by
  obtain ⟨n, rfl⟩ := Int.eq_ofNat_of_zero_le n0
  obtain ⟨c, rfl⟩ := Int.eq_ofNat_of_zero_le b0
  rw [Int.toNat_natCast, Int.toNat_natCast]
  obtain ⟨i0, hi, hz0, hz1, hz2⟩ := info_parts Tryz.infoU8
  go_enter Tryz.func117, Tryz.ntmps117
  go_wp2
  go_loopw [1, 6] (fun x i wr => ∃ k : Nat, k ≤ c ∧ i = .int .i64 k ∧ x = .int .i64 (n / p2 k : Nat) ∧ Out wr b (V + n % p2 k * p2 m) (m + k) ∧ Below b w wr) (fun _ i _ => c - (intOf i).toNat)
  case atStart => exact ⟨0, Nat.zero_le _, rfl, by simp [p2], by simpa [p2, Nat.mod_one] using h, Below.refl _ _⟩
  case round =>
    obtain ⟨k, hk, rfl, rfl, hout, hbel⟩ := hrel
    by_cases hlt : k < c
    · have hval := hide (put_val V n k m)
      have hhalf := hide (half_pow n k)
      have hnk : n / p2 k ≤ n := Nat.div_le_self _ _
      obtain ⟨hV, v, htr, hby⟩ := hout
      obtain ⟨sa, scap, rfl⟩ := hby.form
      have hlb := last_bd (V + n % p2 k * p2 m) (m + k) hV
      generalize V + n % p2 k * p2 m = V1 at *
      generalize hm1 : m + k = m1 at *
      have hx : n / p2 k % 2 ≤ 1 := by omega
      have hxI : ((n / p2 k : Nat) : Int) % 2 = ((n / p2 k % 2 : Nat) : Int) := by omega
      have hnkI : ((n / p2 k : Nat) : Int) < 65536 := by omega
      have hp7 : p2 (m1 % 8) ≤ 128 := p2_le (m1 % 8) 7 (by omega)
      have hXle : n / p2 k % 2 * p2 (m1 % 8) ≤ 1 * p2 (m1 % 8) := Nat.mul_le_mul_right _ hx
      have hmul : ((n / p2 k % 2 : Nat) : Int) * ((p2 (m1 % 8) : Nat) : Int) = ((n / p2 k % 2 * p2 (m1 % 8) : Nat) : Int) := by simp
      have hroom := out_room V1 m1 (n / p2 k % 2) hV hx
      have hfull := out_full V1 m1 (n / p2 k % 2) hV hx
      have hr8 : m1 % 8 < 8 := Nat.mod_lt _ (by omega)
      have hm1le : m1 ≤ 100016 := by omega
      have hbl : (leS (m1 / 8) V1).length = m1 / 8 := leS_len _ _
      generalize n / p2 k = nk at *
      generalize hxx : nk % 2 = x at *
      generalize hLL : V1 / p2 (8 * (m1 / 8)) = L at *
      generalize hrr : m1 % 8 = r at *
      generalize hPP : p2 r = P at *
      generalize hXX : x * P = X at *
      have HPP := hide hPP
      have Hm1 := hide hm1
      have Hrr := hide hrr
      have Hroom := hide hroom
      have Hfull := hide hfull
      have Hx := hide hxx
      clear hm1 hLL hrr hPP hXX hV hroom hfull hxx hx hnk
      obtain ⟨k0, k1, k2, f0, f1, f2, hbw⟩ := htr
      have htr : Hid (Three wr b _ _ _) := ⟨k0, k1, k2, f0, f1, f2, hbw⟩
      have hrI : (r : Int) < 8 := by omega
      have hLI : (L : Int) < 128 := by omega
      have hXI : (X : Int) ≤ 128 := by omega
      have hkc : (k : Int) < (c : Int) := by omega
      have Hr8 := hide hr8
      have Hm1le := hide hm1le
      have Hk := hide hk
      have HLX : Hid (IntKind.i64.wrap ((L : Int) + IntKind.i64.wrap ((nk : Int).tmod 2 * (P : Int))) = (L : Int) + (X : Int)) := by
        show IntKind.i64.wrap ((L : Int) + IntKind.i64.wrap ((nk : Int).tmod 2 * (P : Int))) = (L : Int) + (X : Int)
        rw [Int.tmod_eq_emod_of_nonneg (by omega), hxI, hmul, wrap_id (X : Int) (by omega) (by omega), wrap_id ((L : Int) + (X : Int)) (by omega) (by omega)]
      clear hr8 hm1le hp7 hXle hlb hk hm
      go_wp2_with fail
      go_cut [] from 7 to 62 (fun wc => wc = (wr.setCell ⟨b, 1, none⟩ (.int .i64 ((L : Int) + (X : Int)))).drew)
      case first =>
        go_region_with (go_at_call 145; refine (l1Pow_any _ _ (by omega)).mono ?_; rintro e w' ⟨rfl, rfl⟩; rw [Int.toNat_natCast, unhide HPP])
        all_goals
          go_wp2_with fail
          go_meet
          exact by rw [unhide HLX]
      case rest =>
        have T1 := ((unhide htr).set1 (.int .i64 ((L : Int) + (X : Int)))).drew
        have Y1 := (hby.set (o := 1) (.int .i64 ((L : Int) + (X : Int)))).drew
        have B1 : Below b w _ := (below_set hbel (o := 1) (Nat.le_refl _) (.int .i64 ((L : Int) + (X : Int)))).drew
        rw [← hcut] at T1 Y1 B1
        clear hcut hby hbel htr k0 k1 k2 f0 f1 f2 hbw hmul hxI
        have T1' := hide T1
        obtain ⟨k0, k1, k2, f0, f1, f2, hbw⟩ := T1
        by_cases hr7 : (r : Int) = 7
        · have hr7N : r = 7 := by omega
          obtain ⟨o1, o2, o3, o4⟩ := unhide Hfull hr7N
          have O1 := hide o1
          have O2 := hide o2
          have O3 := hide o3
          have O4 := hide o4
          have hLX : L + X < 256 := by omega
          have hbv := hide (byte_val (L + X) hLX)
          have hbI : IntKind.u8.wrap ((L : Int) + (X : Int)) = (L : Int) + (X : Int) := by
            rw [IntKind.wrap_u8']; omega
          subst hr7N
          clear o1 o2 o3 o4 hr7 hLX
          have T2 := (unhide T1').set2 (.int .i64 8)
          have Y2 := Y1.set (o := 2) (.int .i64 8)
          have B2 : Below b w _ := below_set B1 (o := 2) (Nat.le_refl _) (.int .i64 8)
          have hlen := hide hbl
          clear hbl
          go_wp2_with fail
          generalize wc.setCell ⟨b, 2, none⟩ (.int .i64 8) = W2 at *
          clear k0 k1 k2 f0 f1 f2 T1' Y1 B1
          have T2' := hide T2
          obtain ⟨k0, k1, k2, f0, f1, f2, hb2⟩ := T2
          have hbv' : Hid (((UInt8.ofNat (L + X)).toNat : Int) = (L : Int) + (X : Int)) := by
            show ((UInt8.ofNat (L + X)).toNat : Int) = (L : Int) + (X : Int)
            rw [unhide hbv]; omega
          have hl2 : (leS (m1 / 8) V1).length ≤ 20000 := by have := unhide hlen; have := unhide Hm1le; omega
          have Hl2 := hide hl2
          clear hl2
          go_cut [] from 7 to 62 (fun wc2 => ∃ v', Three wc2 b v' (.int .i64 ((L : Int) + (X : Int))) (.int .i64 8) ∧ Bys wc2 b v' (leS (m1 / 8) V1 ++ [UInt8.ofNat (L + X)]) ∧ Below b w wc2)
          case first =>
            go_region_law (refine step_append_own rfl (.tmp 47) (.tmp 53) 92 rfl (b + 1) 5 i0 (.int .u8 0) 1 1 Tryz.underlying92 hi hz0 hz1 hz2 rfl (by decide) _ _ _ (by simp [Act.eval]) (Y2.alloc _) ⟨W2.heap.size, 0, none⟩ 1 1 [.int .u8 ((L : Int) + (X : Int))] (by simp [Act.eval]) rfl (by intro j u hj; match j, hj with | 0, hj => simp at hj; subst hj; simp [Addr.add]) (by intro u hu; simp at hu; subst hu; rfl) (by have := unhide Hl2; unfold maxLen; omega) (by have := unhide Hl2; omega) (by simp; omega) ?_; intro v' w' hown hgrow hnil; clear hnil; rw [← unhide hbv'] at hown; obtain ⟨⟨g', cap', rfl⟩, T3, Y3, B3⟩ := push_after (unhide T2') Y2 B2 (by first | exact (Below.refl _ _).alloc (by omega) _ | exact ((Below.refl _ _).alloc (by omega) _).drew) hown hgrow; clear hown hgrow; have T3' := hide T3; obtain ⟨q0, q1, q2, e0, e1, e2, hb3⟩ := T3)
            all_goals
              go_wp2_with fail
              go_meet
              exact ⟨_, (unhide T3').set0 _, Y3.set _, below_set B3 (Nat.le_refl _) _⟩
          case rest =>
            obtain ⟨v', T4, Y4, B4⟩ := hcut
            clear k0 k1 k2 f0 f1 f2 T2' Y2 B2 hb2
            obtain ⟨va, vc, rfl⟩ := Y4.form
            have T4' := hide T4
            obtain ⟨k0, k1, k2, f0, f1, f2, hb4⟩ := T4
            go_wp2
            go_roundw
            case rel =>
              refine ⟨k + 1, by have := unhide Hk; omega, by go_num, by rw [← unhide hhalf]; go_num, ?_, below_set (below_set B4 (Nat.le_refl _) _) (Nat.le_refl _) _⟩
              rw [unhide hval, show m + (k + 1) = m1 + 1 by have := unhide Hm1; omega]
              refine ⟨unhide O1, .slice va (leS (m1 / 8) V1 ++ [UInt8.ofNat (L + X)]).length vc, ?_, ?_⟩
              · rw [unhide O2, unhide O3]
                exact ((unhide T4').set1 _).set2 _
              · rw [unhide O4]
                exact (Y4.set _).set _
            case measure => simp [intOf]; omega
        · have hr8f : ((r : Int) + 1 == 8) = false := by simp; omega
          have hlt7 : r < 7 := by omega
          obtain ⟨o1, o2, o3⟩ := unhide Hroom hlt7
          have O1 := hide o1
          have O2 := hide o2
          have O3 := hide o3
          have hm18 : Hid ((m1 + 1) % 8 = r + 1) := by show (m1 + 1) % 8 = r + 1; have := unhide Hrr; omega
          clear o1 o2 o3 hlt7 hr7
          go_wp2
          go_roundw
          case rel =>
            refine ⟨k + 1, by have := unhide Hk; omega, by go_num, by rw [← unhide hhalf]; go_num, ?_, below_set B1 (Nat.le_refl _) _⟩
            rw [unhide hval, show m + (k + 1) = m1 + 1 by have := unhide Hm1; omega]
            refine ⟨unhide O1, .slice sa (leS (m1 / 8) V1).length scap, ?_, ?_⟩
            · rw [unhide O2, unhide hm18]
              exact (unhide T1').set2 _
            · rw [unhide O3]
              exact Y1.set _
          case measure => simp [intOf]; omega
    · have hkc : k = c := by omega
      subst hkc
      go_wp2
      go_end0
      exact ⟨rfl, hout, hbel⟩
end Go.Proofs.YtgpghapnmalipaaGreatDoor
namespace Go.Proofs.YtgpghapnmalipaaGreatDoor
open Go.RowKit Corb
def natP (l : List (Int × Int)) : List (Nat × Nat) := l.map (fun p => (p.1.toNat, p.2.toNat))
def valP (l : List (Int × Int)) : Nat × Nat := putV (0, 0) (natP l)
def textP (l : List (Int × Int)) : List UInt8 := leS (((valP l).2 + 7) / 8) (valP l).1
def putS (l : List (Int × Int)) : List UInt8 := if lOk l = true then textP l else []
theorem putS_yes {l : List (Int × Int)} (h : lOk l = true) : putS l = textP l := if_pos h
theorem putS_no {l : List (Int × Int)} (h : lOk l = false) : putS l = [] := if_neg (by simp [h])
theorem valP_take (l : List (Int × Int)) (k : Nat) (h : k < l.length) : valP (l.take (k + 1)) =
    ((valP (l.take k)).1 + (l.getD k (0, 0)).1.toNat * p2 (valP (l.take k)).2, (valP (l.take k)).2 + (l.getD k (0, 0)).2.toNat) := by
  rw [List.take_succ_eq_append_getElem h, valP, natP, List.map_append, putV_append]
  simp only [List.map_cons, List.map_nil, putV]
  have e : l.getD k (0, 0) = l[k] := by simp [List.getD, h]
  rw [e]
  rfl
theorem valP_bits (l : List (Int × Int)) (h : allOk l = true) : ((valP l).2 : Int) = sumBits l := by
  have key : ∀ (m : List (Int × Int)) (s : Nat × Nat), allOk m = true → ((putV s (natP m)).2 : Int) = (s.2 : Int) + sumBits m := by
    intro m
    induction m with
    | nil => intro s _; simp [natP, putV, sumBits]
    | cons p m ih =>
      intro s hm
      simp only [allOk, List.all_cons, Bool.and_eq_true] at hm
      have hp := pOk_true.1 hm.1
      have := ih (s.1 + p.1.toNat * 2 ^ s.2, s.2 + p.2.toNat) hm.2
      simp only [natP, List.map_cons, putV] at this ⊢
      rw [this]
      simp only [sumBits, List.map_cons, List.sum_cons]
      omega
  have := key l (0, 0) h
  simpa [valP] using this
theorem valP_lt (l : List (Int × Int)) (h : allOk l = true) : (valP l).1 < p2 (valP l).2 := by
  have key : ∀ (m : List (Int × Int)) (s : Nat × Nat), s.1 < p2 s.2 → allOk m = true → (putV s (natP m)).1 < p2 (putV s (natP m)).2 := by
    intro m
    induction m with
    | nil => intro s hs _; exact hs
    | cons p m ih =>
      intro s hs hm
      simp only [allOk, List.all_cons, Bool.and_eq_true] at hm
      have hp := pOk_true.1 hm.1
      have hn : p.1.toNat < p2 p.2.toNat := by omega
      exact ih _ (piece_lt s.1 s.2 p.1.toNat p.2.toNat hs hn) hm.2
  exact key l (0, 0) (by decide) h
theorem out_new (w : World) (t : TypeId) : Out (w.alloc (.cells #[.slice none 0 0, .int .i64 0, .int .i64 0] t)) w.heap.size 0 0 := by
  refine ⟨by decide, .slice none 0 0, ⟨by simp, by simp, by simp, by simp, by simp, by simp, by simp⟩, ?_⟩
  exact World.ownsRow_nil _ _ _ _
end Go.Proofs.YtgpghapnmalipaaGreatDoor
namespace Go.Proofs.YtgpghapnmalipaaGreatDoor
open Go.RowKit Corb
theorem ret_str {a b : List UInt8} (h : a = b) : Ending.returned (.string ⟨a.toArray⟩) = .returned (.string ⟨b.toArray⟩) := by rw [h]
theorem conv_bytes {w : World} {b : Nat} {v : Value} {l : List UInt8} (h : Bys w b v l) :
    (convert 92 9 v).run Tryz.prog w = .ok (.string ⟨l.toArray⟩) w := by
  rcases h.2 with ⟨e, h0⟩ | ⟨g, cap, _, e, _⟩
  · subst e
    have hl : l = [] := List.eq_nil_of_length_eq_zero h0
    subst hl
    rw [run_convert_bytes_string w _ _ _ none 0 0 Tryz.underlying92 Tryz.underlying5 Tryz.underlying9]
    rfl
  · subst e
    exact run_convert_bytes_back w _ _ _ ⟨g, 0, none⟩ cap l Tryz.underlying92 Tryz.underlying5 Tryz.underlying9 (fun j hj => by
      have := h.cells (g := g) rfl j (.int .u8 (l[j].toNat : Int)) (by simp [bcells, hj])
      exact this)
theorem PRow.below {w w' : World} {a : Option Addr} {l : List (Int × Int)} {B : Nat} (h : PRow w a l) (hB : w.heap.size ≤ B) (hb : Below B w w') : PRow w' a l := h.later (hb.mono hB)
end Go.Proofs.YtgpghapnmalipaaGreatDoor
namespace Go.Proofs.YtgpghapnmalipaaGreatDoor
open Go.RowKit Corb
theorem Two.kept {w w' : World} {b : Nat} {v0 v1 : Value} (h : Two w b v0 v1) (hb : Below (b + 1) w w') : Two w' b v0 v1 := by
  obtain ⟨c0, c1, f0, f1, hlt⟩ := h
  have hs := Nat.lt_succ_self b
  exact ⟨(hb.cell (p := ⟨b, 0, none⟩) hs).trans c0, (hb.cell (p := ⟨b, 1, none⟩) hs).trans c1, (hb.frozen (p := ⟨b, 0, none⟩) hs).trans f0, (hb.frozen (p := ⟨b, 1, none⟩) hs).trans f1, Nat.lt_of_lt_of_le hlt hb.size⟩
def WOut (w : World) (b V m : Nat) : Prop :=
  V < p2 m ∧ ∃ v, Two w b v (.int .i64 (m : Int)) ∧ Bys w b v (leS ((m + 7) / 8) V)
theorem push_two {w W2 WA w' : World} {b : Nat} {v v' v1 : Value} {l : List UInt8} {x : UInt8} (T2 : Two W2 b v v1) (Y2 : Bys W2 b v l) (B2 : Below b w W2)
    (hWA : Below (b + 1) W2 WA) (hown : w'.ownsRow (b + 1) 5 1 v' (l.length + 1) (bcells l ++ [.int .u8 (x.toNat : Int)])) (hgrow : WA.grownBy w' v.ownBlock) :
    (∃ g cap, v' = .slice (some ⟨g, 0, none⟩) (l.length + 1) cap) ∧ Two w' b v v1 ∧ Bys w' b v' (l ++ [x]) ∧ Below b w w' := by
  have hlt := T2.2.2.2.2
  have hlt2 := Nat.lt_of_lt_of_le hlt hWA.size
  have hblk : ∀ k, v.ownBlock = some k → b + 1 ≤ k := fun k hk => (Y2.lt k hk).1
  have hb : Below (b + 1) W2 w' := hWA.grown hgrow (by omega) hblk
  refine ⟨?_, T2.kept hb, ?_, B2.trans (hb.mono (by omega))⟩
  · rcases hown.2 with ⟨_, h0⟩ | ⟨g, cap, _, e, _⟩
    · omega
    · exact ⟨g, cap, e⟩
  · show w'.ownsRow (b + 1) 5 1 v' (l ++ [x]).length (bcells (l ++ [x]))
    simpa [bcells] using hown
theorem Bys.at {w : World} {b g cap j : Nat} {l : List UInt8} (h : Bys w b (.slice (some ⟨g, 0, none⟩) l.length cap) l) (hj : j < l.length) :
    w.cell? ⟨g, j, none⟩ = some (.int .u8 ((l.getD j 0).toNat : Int)) ∧ w.frozen? ⟨g, j, none⟩ = false ∧ b < g := by
  refine ⟨?_, World.ownsRow.frozenAt h j, (World.ownsRow.lt h g rfl).1⟩
  rw [World.ownsRow.cellAt h j (by omega)]
  simp [bcells, hj, List.getD]
theorem Bys.put {w : World} {b g cap j : Nat} {l : List UInt8} (h : Bys w b (.slice (some ⟨g, 0, none⟩) l.length cap) l) (x : UInt8) :
    Bys (w.setCell ⟨g, j, none⟩ (.int .u8 (x.toNat : Int))) b (.slice (some ⟨g, 0, none⟩) l.length cap) (l.set j x) := by
  have := World.ownsRow.stored h j (.int .u8 (x.toNat : Int))
  show World.ownsRow _ _ _ _ _ (l.set j x).length (bcells (l.set j x))
  rw [List.length_set]
  have e : bcells (l.set j x) = (bcells l).set j (.int .u8 (x.toNat : Int)) := by simp [bcells, List.map_set]
  rw [e]
  exact this.1
theorem wset (V m x : Nat) (hV : V < p2 m) (hx : x ≤ 1) :
    V + x * p2 m < p2 (m + 1) ∧ leS ((m + 1 + 7) / 8) (V + x * p2 m) = (leS (m / 8 + 1) V).set (m / 8) (UInt8.ofNat (V / p2 (8 * (m / 8)) + x * p2 (m % 8))) := by
  refine ⟨add_lt V x m hV hx, ?_⟩
  rw [show (m + 1 + 7) / 8 = m / 8 + 1 by omega]
  exact leS_set (m / 8) V x m rfl hx hV
theorem wpad (V m : Nat) (hV : V < p2 m) (hr : m % 8 = 0) : leS ((m + 7) / 8) V ++ [0] = leS (m / 8 + 1) V := by
  rw [show (m + 7) / 8 = m / 8 by omega]
  exact (leS_pad (m / 8) V (by rw [show 8 * (m / 8) = m by omega]; exact hV)).symm
theorem wsame (V m : Nat) (hr : m % 8 ≠ 0) : leS ((m + 7) / 8) V = leS (m / 8 + 1) V := by
  rw [show (m + 7) / 8 = m / 8 + 1 by omega]
theorem wbyte (V m : Nat) (hV : V < p2 m) : ((leS (m / 8 + 1) V).getD (m / 8) 0).toNat = V / p2 (8 * (m / 8)) := by
  rw [leS_get _ _ _ (by omega)]
  have h1 := last_bd V m hV
  have h2 := p2_le (m % 8) 7 (by omega)
  have h3 : p2 7 = 128 := rfl
  have e : V / 2 ^ (8 * (m / 8)) % 256 = V / p2 (8 * (m / 8)) := Nat.mod_eq_of_lt (by show V / p2 (8 * (m / 8)) < 256; omega)
  rw [e, byte_val _ (by omega)]
def Box (w : World) (P : Nat) (x y : Int) : Prop := w.heap[P]? = some (.cells #[.int .i64 x, .int .i64 y] 112)
theorem box_new (w : World) (x y : Int) : Box (w.alloc (.cells #[.int .i64 x, .int .i64 y] 112)) w.heap.size x y := by
  show (w.heap.push _)[w.heap.size]? = _
  simp
theorem Box.cells {w : World} {P : Nat} {x y : Int} (h : Box w P x y) : w.cell? ⟨P, 0, none⟩ = some (.int .i64 x) ∧ w.cell? ⟨P, 1, none⟩ = some (.int .i64 y) ∧ P < w.heap.size := by
  refine ⟨by simp [World.cell?, show w.heap[P]? = _ from h], by simp [World.cell?, show w.heap[P]? = _ from h], ?_⟩
  have h' : w.heap[P]? = some _ := h
  exact (Array.getElem?_eq_some_iff.1 h').1
theorem Box.ne {w : World} {P b : Nat} {x y : Int} {v : Value} {l : List UInt8} (h : Box w P x y) (hy : Bys w b v l) (k : Nat) (hk : v.ownBlock = some k) : k ≠ P := by
  rintro rfl
  rcases hy.2 with ⟨e, _⟩ | ⟨g, cap, cur, e, _, hg, _⟩
  · subst e; simp [Value.ownBlock] at hk
  · subst e
    simp only [Value.ownBlock, Option.some.injEq] at hk
    subst hk
    have h' : w.heap[g]? = some (.cells #[.int .i64 x, .int .i64 y] 112) := h
    rw [h'] at hg
    simp at hg
theorem Box.set {w : World} {P b o : Nat} {x y : Int} (h : Box w P x y) (hb : b ≠ P) (u : Value) : Box (w.setCell ⟨b, o, none⟩ u) P x y := by
  show (w.setCell ⟨b, o, none⟩ u).heap[P]? = _
  rw [Below.heap_setCell w ⟨b, o, none⟩ u P (fun e => hb e.symm)]
  exact h
theorem Box.drew {w : World} {P : Nat} {x y : Int} (h : Box w P x y) : Box w.drew P x y := h
theorem Box.alloc {w : World} {P : Nat} {x y : Int} (h : Box w P x y) (o : Obj) : Box (w.alloc o) P x y := by
  show (w.alloc o).heap[P]? = _
  rw [Below.heap_alloc w o P h.cells.2.2]
  exact h
theorem Box.grown {w w' : World} {P b : Nat} {x y : Int} {v : Value} {l : List UInt8} (h : Box w P x y) (hy : Bys w b v l) (hg : w.grownBy w' v.ownBlock) : Box w' P x y := by
  show w'.heap[P]? = _
  rw [hg.block P h.cells.2.2 (fun e => h.ne hy P e.symm rfl)]
  exact h
def Keep5 (b : Nat) (w w' : World) : Prop := w.heap.size ≤ w'.heap.size ∧ ∀ k, k < w.heap.size → k ≠ b → (∀ cur fr, w.heap[k]? ≠ some (.cells cur 5 fr)) → w'.heap[k]? = w.heap[k]?
theorem Keep5.refl (b : Nat) (w : World) : Keep5 b w w := ⟨Nat.le_refl _, fun _ _ _ _ => rfl⟩
theorem Keep5.trans {b : Nat} {w w1 w2 : World} (h : Keep5 b w w1) (k : Keep5 b w1 w2) : Keep5 b w w2 :=
  ⟨Nat.le_trans h.1 k.1, fun j hj hb ht => by
    have e := h.2 j hj hb ht
    rw [k.2 j (Nat.lt_of_lt_of_le hj h.1) hb (fun cur fr => by rw [e]; exact ht cur fr), e]⟩
theorem Keep5.drew {b : Nat} {w w' : World} (h : Keep5 b w w') : Keep5 b w w'.drew := h
theorem Keep5.alloc {b : Nat} {w w' : World} (h : Keep5 b w w') (o : Obj) : Keep5 b w (w'.alloc o) :=
  h.trans ⟨by simp, fun j hj _ _ => Below.heap_alloc w' o j hj⟩
theorem Keep5.set {b o : Nat} {w w' : World} (h : Keep5 b w w') (u : Value) : Keep5 b w (w'.setCell ⟨b, o, none⟩ u) :=
  h.trans ⟨by simp, fun j _ hb _ => Below.heap_setCell w' ⟨b, o, none⟩ u j hb⟩
theorem Keep5.setRow {b c g j cap : Nat} {w w' : World} {l : List UInt8} (h : Keep5 b w w') (hy : Bys w' c (.slice (some ⟨g, 0, none⟩) l.length cap) l) (u : Value) : Keep5 b w (w'.setCell ⟨g, j, none⟩ u) := by
  refine h.trans ⟨by simp, fun k _ _ ht => ?_⟩
  by_cases e : k = g
  · subst e
    rcases hy.2 with ⟨e, _⟩ | ⟨g', cap', cur, e, _, hg, _⟩
    · simp at e
    · simp only [Value.slice.injEq, Option.some.injEq, Addr.mk.injEq, and_true, true_and] at e
      obtain ⟨rfl, _⟩ := e
      exact absurd hg (ht cur (0, 0))
  · exact Below.heap_setCell w' ⟨g, j, none⟩ u k e
theorem Keep5.grown {b c : Nat} {w w' w'' : World} {v : Value} {l : List UInt8} (h : Keep5 b w w') (hy : Bys w' c v l) (hg : w'.grownBy w'' v.ownBlock) : Keep5 b w w'' := by
  refine h.trans ⟨hg.size, fun k hk _ ht => ?_⟩
  refine hg.block k hk (fun e => ?_)
  rcases hy.2 with ⟨e', _⟩ | ⟨g', cap', cur, e', _, hg', _⟩
  · subst e'; simp [Value.ownBlock] at e
  · subst e'
    simp only [Value.ownBlock, Option.some.injEq] at e
    subst e
    exact ht cur (0, 0) hg'
end Go.Proofs.YtgpghapnmalipaaGreatDoor
namespace Go.Proofs.YtgpghapnmalipaaGreatDoor
open Go.RowKit Corb
theorem u8_or_join (B X r : Nat) (hB : B < p2 r) (hr : r < 8) (hX : X = 0 ∨ X = p2 r) : bits .or .u8 (B : Int) (X : Int) = ((B + X : Nat) : Int) := by
  have h7 := p2_le r 7 (by omega)
  have h3 : p2 7 = 128 := rfl
  rw [u8_or_nat B X (by omega) (by omega)]
  congr 1
  rw [Nat.or_comm]
  rcases hX with rfl | rfl
  · simp
  · rw [nat_join r (p2 r) B (by unfold p2; simp) hB]; omega
theorem Two.other {w : World} {b g o : Nat} {v0 v1 : Value} (h : Two w b v0 v1) (hg : g ≠ b) (u : Value) : Two (w.setCell ⟨g, o, none⟩ u) b v0 v1 := by
  obtain ⟨c0, c1, f0, f1, hb⟩ := h
  refine ⟨?_, ?_, by simpa using f0, by simpa using f1, by simpa using hb⟩
  · rw [World.cell?_setCell_other _ _ _ _ (by simp only [ne_eq, Addr.mk.injEq]; omega)]; exact c0
  · rw [World.cell?_setCell_other _ _ _ _ (by simp only [ne_eq, Addr.mk.injEq]; omega)]; exact c1
theorem wout_step {w wr : World} {b g cap V1 m1 x L X : Nat} {P : Nat} {p q : Int} (htr : Two wr b (.slice (some ⟨g, 0, none⟩) (leS (m1 / 8 + 1) V1).length cap) (.int .i64 (m1 : Int)))
    (hput : Bys (wr.setCell ⟨g, m1 / 8, none⟩ (.int .u8 ((UInt8.ofNat (L + X)).toNat : Int))) b (.slice (some ⟨g, 0, none⟩) (leS (m1 / 8 + 1) V1).length cap) ((leS (m1 / 8 + 1) V1).set (m1 / 8) (UInt8.ofNat (L + X))))
    (hw1 : V1 + x * p2 m1 < p2 (m1 + 1)) (hw2 : leS ((m1 + 1 + 7) / 8) (V1 + x * p2 m1) = (leS (m1 / 8 + 1) V1).set (m1 / 8) (UInt8.ofNat (L + X)))
    (hbv : (UInt8.ofNat (L + X)).toNat = L + X) (hgb : b < g) (hgP : g ≠ P) (hPb : P ≠ b) (hbox : Box wr P p q) (hbel : Below b w wr) (hby0 : Bys wr b (.slice (some ⟨g, 0, none⟩) (leS (m1 / 8 + 1) V1).length cap) (leS (m1 / 8 + 1) V1)) (hkp : Keep5 b w wr) :
    WOut ((wr.setCell ⟨g, m1 / 8, none⟩ (.int .u8 ((L : Int) + (X : Int)))).setCell ⟨b, 1, none⟩ (.int .i64 ((m1 : Int) + 1))).drew b (V1 + x * p2 m1) (m1 + 1) ∧
    Box ((wr.setCell ⟨g, m1 / 8, none⟩ (.int .u8 ((L : Int) + (X : Int)))).setCell ⟨b, 1, none⟩ (.int .i64 ((m1 : Int) + 1))).drew P p q ∧
    Below b w ((wr.setCell ⟨g, m1 / 8, none⟩ (.int .u8 ((L : Int) + (X : Int)))).setCell ⟨b, 1, none⟩ (.int .i64 ((m1 : Int) + 1))).drew ∧
    Keep5 b w ((wr.setCell ⟨g, m1 / 8, none⟩ (.int .u8 ((L : Int) + (X : Int)))).setCell ⟨b, 1, none⟩ (.int .i64 ((m1 : Int) + 1))).drew := by
  have e : ((UInt8.ofNat (L + X)).toNat : Int) = (L : Int) + (X : Int) := by rw [hbv]; omega
  rw [e] at hput
  refine ⟨⟨hw1, .slice (some ⟨g, 0, none⟩) (leS (m1 / 8 + 1) V1).length cap, ?_, ?_⟩, ?_, ?_, ?_⟩
  · exact ((htr.other (by omega) _).set1 _).drew
  · rw [hw2]
    exact (hput.set _).drew
  · exact ((hbox.set (by omega) _).set (by omega) _).drew
  · exact (below_set (below_set hbel (by omega) _) (Nat.le_refl _) _).drew
  · exact ((hkp.setRow hby0 _).set _).drew
set_option maxHeartbeats 6400000 in
theorem pass_any (b V m : Nat) (num bits : Int) (w : World) (h : WOut w b V m) (hp : pOk num bits = true) (hm : m ≤ 100000) :
    Calls Tryz.prog 221 #[.pointer (some ⟨b, 0, none⟩), .agg #[.int .i64 num, .int .i64 bits]] w fun e w' => e = .returned (.int .i64 num) ∧
      WOut w' b (V + num.toNat * p2 m) (m + bits.toNat) ∧ Below b w w' ∧ Keep5 b w w' := by
  obtain ⟨⟨b0, b1⟩, n0, n1⟩ := pOk_true.1 hp
  have hq := (pow_bd bits b1).2
  obtain ⟨n, rfl⟩ := Int.eq_ofNat_of_zero_le n0
  obtain ⟨c, rfl⟩ := Int.eq_ofNat_of_zero_le b0
  rw [Int.toNat_natCast, Int.toNat_natCast]
  rw [Int.toNat_natCast] at n1 hq
  have hnmod : Hid (n % p2 c = n) := Nat.mod_eq_of_lt (by omega)
  have hn2 : (n : Int) < 65536 := by omega
  obtain ⟨i0, hi, hz0, hz1, hz2⟩ := info_parts Tryz.infoU8
  have hbw : b < w.heap.size := by obtain ⟨_, v, ht, _⟩ := h; exact ht.2.2.2.2
  have hbox0 := box_new w (n : Int) (c : Int)
  have h0 : WOut (w.alloc (.cells #[.int .i64 (n : Int), .int .i64 (c : Int)] 112)) b V m := by
    obtain ⟨hV, v, ht, hy⟩ := h
    exact ⟨hV, v, ht.kept ((Below.refl _ _).alloc (by omega) _), World.ownsRow.alloc hy _⟩
  have hbel0 : Below b w (w.alloc (.cells #[.int .i64 (n : Int), .int .i64 (c : Int)] 112)) := (Below.refl _ _).alloc (by omega) _
  clear n1 hq h hp
  go_enter Tryz.func221, Tryz.ntmps221
  go_wp2_with fail
  go_loopw [5, 8] (fun _ i wr => ∃ k : Nat, k ≤ c ∧ i = .int .i64 k ∧ WOut wr b (V + n % p2 k * p2 m) (m + k) ∧ Box wr w.heap.size n c ∧ Below b w wr ∧ Keep5 b w wr) (fun _ i _ => c - (intOf i).toNat)
  case atStart => exact ⟨0, Nat.zero_le _, rfl, by simpa [p2, Nat.mod_one] using h0, hbox0, hbel0, (Keep5.refl _ _).alloc _⟩
  case round =>
    obtain ⟨k, hk, rfl, hout, hbox, hbel, hkp⟩ := hrel
    clear h0 hbox0 hbel0
    obtain ⟨bc0, bc1, bclt⟩ := hbox.cells
    by_cases hlt : k < c
    · have hval := hide (put_val V n k m)
      have hnk : n / p2 k ≤ n := Nat.div_le_self _ _
      have Hsh : Hid ((n : Int) / 2 ^ k = ((n / p2 k : Nat) : Int)) := (Int.natCast_ediv n (2 ^ k)).symm
      obtain ⟨hV, v, htr, hby⟩ := hout
      obtain ⟨sa, scap, rfl⟩ := hby.form
      have hlb := last_bd (V + n % p2 k * p2 m) (m + k) hV
      generalize V + n % p2 k * p2 m = V1 at *
      generalize hm1 : m + k = m1 at *
      have hx : n / p2 k % 2 ≤ 1 := by omega
      have hnkI : ((n / p2 k : Nat) : Int) < 65536 := by omega
      have hone := i64_and_one ((n / p2 k : Nat) : Int) (Int.natCast_nonneg _) (Int.lt_trans hnkI (by omega))
      have hxI : ((n / p2 k : Nat) : Int) % 2 = ((n / p2 k % 2 : Nat) : Int) := by omega
      rw [hxI] at hone
      have hp7 : p2 (m1 % 8) ≤ 128 := p2_le (m1 % 8) 7 (by omega)
      have hXle : n / p2 k % 2 * p2 (m1 % 8) ≤ 1 * p2 (m1 % 8) := Nat.mul_le_mul_right _ hx
      have hmul : ((n / p2 k % 2 : Nat) : Int) * (2 : Int) ^ (m1 % 8) = ((n / p2 k % 2 * p2 (m1 % 8) : Nat) : Int) := by rw [Int.natCast_mul, p2_int]
      have hX01 : n / p2 k % 2 * p2 (m1 % 8) = 0 ∨ n / p2 k % 2 * p2 (m1 % 8) = p2 (m1 % 8) := by
        rcases (show n / p2 k % 2 = 0 ∨ n / p2 k % 2 = 1 by omega) with e | e <;> rw [e] <;> simp
      obtain ⟨hw1, hw2⟩ := wset V1 m1 (n / p2 k % 2) hV hx
      have hwb := wbyte V1 m1 hV
      have hor := u8_or_join (V1 / p2 (8 * (m1 / 8))) (n / p2 k % 2 * p2 (m1 % 8)) (m1 % 8) hlb (by omega) hX01
      have hpad := hide (wpad V1 m1 hV)
      have hsame := hide (wsame V1 m1)
      have hlen : (leS (m1 / 8 + 1) V1).length = m1 / 8 + 1 := leS_len _ _
      have hlen0 : (leS ((m1 + 7) / 8) V1).length = (m1 + 7) / 8 := leS_len _ _
      have hm1le : m1 ≤ 100016 := by omega
      have hb256 : V1 / p2 (8 * (m1 / 8)) + n / p2 k % 2 * p2 (m1 % 8) < 256 := by omega
      have hbv := byte_val _ hb256
      have hkc : (k : Int) < (c : Int) := by omega
      have hk16 : (k : Int) ≤ 16 := by omega
      have hr0 : m1 % 8 = 0 ↔ ((m1 : Int) % 8 = 0) := by omega
      have hr8 : (m1 : Int) % 8 < 8 := by omega
      have hm1I : (m1 : Int) ≤ 100016 := by omega
      have hBI : ((V1 / p2 (8 * (m1 / 8)) : Nat) : Int) < 256 := by omega
      have hXI : ((n / p2 k % 2 * p2 (m1 % 8) : Nat) : Int) ≤ 128 := by omega
      have hx1I : ((n / p2 k % 2 : Nat) : Int) ≤ 1 := by omega
      have Hm1 := hide hm1
      have HK := hide hk
      have Hlen := hide hlen
      have Hlen0 := hide hlen0
      have Hm1le := hide hm1le
      have Hw1 := hide hw1
      have Hw2 := hide hw2
      have Hwb := hide hwb
      have Hbv := hide hbv
      have hsh := unhide Hsh
      clear Hsh hxI hX01 hlb hp7 hXle hw1 hw2 hwb hlen hlen0 hm1le hb256 hbv hnk hx hm1 hk hV hlt
      generalize n / p2 k = nk at *
      generalize nk % 2 = x at *
      generalize x * p2 (m1 % 8) = X at *
      generalize V1 / p2 (8 * (m1 / 8)) = L at *
      have htr' := hide htr
      obtain ⟨k0, k1, f0, f1, hbw'⟩ := htr
      have hPb : w.heap.size ≠ b := by omega
      by_cases hr : m1 % 8 = 0
      · have hrI : ((m1 : Int) % 8 == 0) = true := by simp; omega
        have hpd := hide (unhide hpad hr)
        clear hr0 hr hpad hsame hr8 hm
        have hl0 : (leS ((m1 + 7) / 8) V1).length ≤ 20000 := by have := unhide Hlen0; have := unhide Hm1le; omega
        have Hl0 := hide hl0
        clear hl0
        go_wp2_with (at_builtin; refine wpList_append_own _ rfl _ _ 92 rfl (b + 1) 5 i0 (.int .u8 0) 1 1 Tryz.underlying92 hi hz0 hz1 hz2 rfl (by decide) _ _ _ rfl (World.ownsRow.alloc hby _) ⟨wr.heap.size, 0, none⟩ 1 1 [.int .u8 0] rfl rfl (by intro j u hj; match j, hj with | 0, hj => simp at hj; subst hj; simp [Addr.add]) (by intro u hu; simp at hu; subst hu; rfl) (by have := unhide Hl0; unfold maxLen; omega) (by have := unhide Hl0; omega) (by simp; omega) ?_; intro v' w' hown hgrow hnil; clear hnil; have hbox' := (hbox.alloc _).grown (World.ownsRow.alloc hby _) hgrow; have hkp' := (hkp.alloc (.cells #[.int .u8 0] 5)).grown (World.ownsRow.alloc hby _) hgrow; obtain ⟨⟨g, cap, rfl⟩, T3, Y3, B3⟩ := push_two (x := 0) (unhide htr') hby hbel ((Below.refl _ _).alloc (by omega) _) hown hgrow; clear hown hgrow hby hbox hbel hkp htr' k0 k1 f0 f1; have T3' := hide T3; obtain ⟨k0, k1, f0, f1, hb3⟩ := T3)
        have hlenA : (leS ((m1 + 7) / 8) V1).length + 1 = (leS (m1 / 8 + 1) V1).length := by rw [← unhide hpd, List.length_append]; rfl
        rw [hlenA] at Y3 ⊢
        have T4 := (unhide T3').set0 (.slice (some ⟨g, 0, none⟩) (leS (m1 / 8 + 1) V1).length cap)
        have hby := Y3.set (o := 0) (.slice (some ⟨g, 0, none⟩) (leS (m1 / 8 + 1) V1).length cap)
        rw [unhide hpd] at hby
        have hbox := hbox'.set (b := b) (o := 0) (by omega) (.slice (some ⟨g, 0, none⟩) (leS (m1 / 8 + 1) V1).length cap)
        have hkp := hkp'.set (o := 0) (.slice (some ⟨g, 0, none⟩) (leS (m1 / 8 + 1) V1).length cap)
        have hbel : Below b w _ := below_set B3 (o := 0) (Nat.le_refl _) (.slice (some ⟨g, 0, none⟩) (leS (m1 / 8 + 1) V1).length cap)
        clear Y3 B3 T3' k0 k1 f0 f1 hbox' hkp' bc0 bc1 bclt hlenA hb3
        generalize w'.setCell ⟨b, 0, none⟩ (.slice (some ⟨g, 0, none⟩) (leS (m1 / 8 + 1) V1).length cap) = wA at *
        have htr' := hide T4
        obtain ⟨k0, k1, f0, f1, hb3⟩ := T4
        obtain ⟨bc0, bc1, bclt⟩ := hbox.cells
        obtain ⟨gc, gf, gb⟩ := hby.at (j := m1 / 8) (by have := unhide Hlen; omega)
        rw [unhide Hwb] at gc
        have hput := hide (hby.put (j := m1 / 8) (UInt8.ofNat (L + X)))
        have hgP : g ≠ w.heap.size := hbox.ne hby g rfl
        have Hby := hide hby
        have Hkp := hide hkp
        clear hkp
        have hlenN := unhide Hlen
        rw [hlenN] at k0
        generalize hN : m1 / 8 + 1 = N at k0
        have hNI : (N : Int) = (m1 : Int) / 8 + 1 := by omega
        have hidx : (m1 : Int) / 8 < (N : Int) := by omega
        have hgb : g ≠ b := by omega
        clear hN hNI hlenN hby
        go_region
        all_goals
          go_wp2
          go_roundw
          case rel =>
            have hst := wout_step (unhide htr') (unhide hput) (unhide Hw1) (unhide Hw2) (unhide Hbv) gb hgP hPb hbox hbel (unhide Hby) (unhide Hkp)
            refine ⟨k + 1, by have := unhide HK; omega, by go_num, ?_, hst.2.1, hst.2.2.1, hst.2.2.2⟩
            rw [unhide hval, show m + (k + 1) = m1 + 1 by have := unhide Hm1; omega]
            exact hst.1
          case measure => simp [intOf]; omega
      · have hrI : ((m1 : Int) % 8 == 0) = false := by simp; omega
        have hsm := unhide hsame hr
        rw [hsm] at hby k0 htr'
        obtain ⟨g, cap, hform⟩ : ∃ g cap, Value.slice sa (leS (m1 / 8 + 1) V1).length scap = .slice (some ⟨g, 0, none⟩) (leS (m1 / 8 + 1) V1).length cap := by
          rcases hby.2 with ⟨_, h0⟩ | ⟨g, cap, _, e, _⟩
          · have := unhide Hlen; omega
          · exact ⟨g, cap, e⟩
        rw [hform] at hby k0 htr'
        obtain ⟨gc, gf, gb⟩ := hby.at (j := m1 / 8) (by have := unhide Hlen; omega)
        rw [unhide Hwb] at gc
        have hput := hide (hby.put (j := m1 / 8) (UInt8.ofNat (L + X)))
        have hgP : g ≠ w.heap.size := hbox.ne hby g rfl
        have Hby := hide hby
        have Hkp := hide hkp
        clear hkp
        have hlenN := unhide Hlen
        rw [hlenN] at k0
        generalize hN : m1 / 8 + 1 = N at k0
        have hNI : (N : Int) = (m1 : Int) / 8 + 1 := by omega
        have hidx : (m1 : Int) / 8 < (N : Int) := by omega
        have HN := hide hN
        have HNI := hide hNI
        have hgb : g ≠ b := by omega
        have Hf := hide hform
        clear hN hNI hlenN hform hsm hr0 hr hpad hsame hby hm hr8
        go_wp2_with fail
        go_region
        all_goals
          go_wp2
          go_roundw
          case rel =>
            have hst := wout_step (unhide htr') (unhide hput) (unhide Hw1) (unhide Hw2) (unhide Hbv) gb hgP hPb hbox hbel (unhide Hby) (unhide Hkp)
            refine ⟨k + 1, by have := unhide HK; omega, by go_num, ?_, hst.2.1, hst.2.2.1, hst.2.2.2⟩
            rw [unhide hval, show m + (k + 1) = m1 + 1 by have := unhide Hm1; omega]
            exact hst.1
          case measure => simp [intOf]; omega
    · have hkc : k = c := by omega
      subst hkc
      rw [unhide hnmod] at hout
      go_wp2
      go_ret
      exact ⟨rfl, hout, hbel, hkp⟩
end Go.Proofs.YtgpghapnmalipaaGreatDoor
namespace Go.Proofs.YtgpghapnmalipaaGreatDoor
open Go.RowKit Corb
def Ints (w : World) (b : Nat) (v : Value) (xs : List Int) : Prop := w.ownsRow (b + 1) 3 1 v xs.length (xs.map (Value.int .i64))
theorem Ints.keep {w w' : World} {b : Nat} {v : Value} {xs : List Int} (h : Ints w b v xs) (hk : Keep5 b w w') : Ints w' b v xs := by
  refine ⟨h.1, ?_⟩
  rcases h.2 with e | ⟨g, cap, cur, e, hb, hg, hr⟩
  · exact .inl e
  · refine .inr ⟨g, cap, cur, e, hb, ?_, hr⟩
    rw [hk.2 g (Array.getElem?_eq_some_iff.1 hg).1 (by omega) (fun cur' fr => by rw [hg]; simp)]
    exact hg
theorem Bys.other {w w' : World} {b c : Nat} {v o : Value} {l : List UInt8} {xs : List Int} (h : Bys w b v l) (ho : Ints w c o xs) (hg : w.grownBy w' o.ownBlock) : Bys w' b v l := by
  refine World.ownsRow.kept h hg ?_
  cases hv : v.ownBlock with
  | none => exact .inl rfl
  | some k =>
    refine .inr (fun e => ?_)
    rcases h.2 with ⟨e1, _⟩ | ⟨g, cap, cur, e1, _, hg1, _⟩
    · subst e1; simp [Value.ownBlock] at hv
    · rcases ho.2 with ⟨e2, _⟩ | ⟨g2, cap2, cur2, e2, _, hg2, _⟩
      · subst e2; simp [Value.ownBlock] at e
      · subst e1 e2
        simp only [Value.ownBlock, Option.some.injEq] at hv e
        subst hv
        subst e
        rw [hg1] at hg2
        simp at hg2
theorem WOut.alloc {w : World} {b V m : Nat} (h : WOut w b V m) (o : Obj) : WOut (w.alloc o) b V m := by
  obtain ⟨hV, v, ht, hy⟩ := h
  exact ⟨hV, v, ht.kept ((Below.refl _ _).alloc (by have := ht.2.2.2.2; omega) _), World.ownsRow.alloc hy _⟩
theorem WOut.other {w w' : World} {b V m : Nat} {o : Value} {xs : List Int} (h : WOut w b V m) (ho : Ints w b o xs) (hg : w.grownBy w' o.ownBlock) : WOut w' b V m := by
  obtain ⟨hV, v, ht, hy⟩ := h
  exact ⟨hV, v, ht.kept ((Below.refl _ _).grown hg (by have := ht.2.2.2.2; omega) (fun k hk => (World.ownsRow.lt ho k hk).1)), hy.other ho hg⟩
theorem WOut.lt {w : World} {b V m : Nat} (h : WOut w b V m) : b < w.heap.size := by
  obtain ⟨hV, v, ht, hy⟩ := h
  exact ht.2.2.2.2
theorem methPassW (a : Addr) (w : World) : (method 397 160 (.pointer (some a)) "loop.example/corbel/impl.pass").run Tryz.prog w = .ok (221, .pointer (some a)) w := by kernel_rfl
set_option maxHeartbeats 3200000 in
theorem eachW_any (b : Nat) (a : Option Addr) (cap : Nat) (l : List (Int × Int)) (w0 w : World) (h : PRow w0 a l) (h0 : Below b w0 w) (hs : w0.heap.size ≤ b) (hok : lOk l = true) (hw : WOut w b 0 0) :
    Calls Tryz.prog 131 #[.slice a l.length cap, .func (.method "loop.example/corbel/impl.pass") #[.iface 160 (.pointer (some ⟨b, 0, none⟩))] #[]] w fun e w' =>
      (∃ v, e = .returned v) ∧ WOut w' b (valP l).1 (valP l).2 ∧ Below b w w' := by
  simp only [lOk, Bool.and_eq_true, decide_eq_true_iff] at hok
  obtain ⟨hall, h4⟩ := hok
  have hall' := hide hall
  have H4 := hide h4
  have h4' : (l.length : Int) ≤ 4000 := by omega
  clear hall h4
  obtain ⟨i0, hi, hz0, hz1, hz2⟩ := info_parts Tryz.infoInt
  have mp := methPassW ⟨b, 0, none⟩
  go_enter Tryz.func131, Tryz.ntmps131
  go_wp2_with fail
  go_loopw [5, 7, 10] (fun o _ i wr => ∃ (k : Nat) (xs : List Int), k ≤ l.length ∧ i = .int .i64 k ∧ xs.length = k ∧ Ints wr b o xs ∧ WOut wr b (valP (l.take k)).1 (valP (l.take k)).2 ∧ Below b w wr) (fun _ _ i _ => l.length - (intOf i).toNat)
  case atStart => exact ⟨0, [], Nat.zero_le _, rfl, rfl, World.ownsRow_nil _ _ _ _, hw, Below.refl _ _⟩
  case round =>
    obtain ⟨k, xs, hk, rfl, hxs, hints, hout, hbel⟩ := hrel
    have hltb := hout.lt
    by_cases hlt : k < l.length
    · obtain ⟨g, o, rfl, hg, hc⟩ := (h.below hs (h0.trans hbel)) (by omega)
      obtain ⟨c0, c1⟩ := hc k hlt
      have hmb := valP_bits (l.take k) (allOk_take_true (unhide hall') k)
      obtain ⟨s0, s1⟩ := sum_bd (allOk_take_true (unhide hall') k)
      have s2 : ((l.take k).length : Int) ≤ 4000 := by simp; omega
      have hml : Hid ((valP (l.take k)).2 ≤ 64000) := by show (valP (l.take k)).2 ≤ 64000; omega
      have hpk := hide (allOk_get (unhide hall') k hlt)
      have hstep := hide (valP_take l k hlt)
      have HK := hide hk
      have HX := hide hxs
      clear hmb s0 s1 s2 hc hk hxs hw
      generalize (l.getD k (0, 0)).1 = x at *
      generalize (l.getD k (0, 0)).2 = y at *
      generalize valP (l.take k) = S at *
      go_wp2_with fail
      refine (pass_any b S.1 S.2 x y _ (hout.alloc _) (unhide hpk) (by have := unhide hml; omega)).mono ?_
      rintro e w1 ⟨rfl, hout1, hbel1, hkp1⟩
      have hints1 : Ints w1 b u5 xs := Ints.keep (World.ownsRow.alloc hints _) hkp1
      have hbel2 := (hbel.alloc (Nat.le_of_lt hltb) (.cells #[.int .i64 x, .int .i64 y] 112)).trans hbel1
      have hlt1 := hout1.lt
      clear hout hints hbel hbel1 hkp1
      go_wp2_with (at_builtin; refine wpList_append_own _ rfl _ _ 107 rfl (b + 1) 3 i0 (.int .i64 0) 1 8 Tryz.underlying107 hi hz0 hz1 hz2 rfl (by decide) _ _ _ rfl (World.ownsRow.alloc hints1 _) ⟨w1.heap.size, 0, none⟩ 1 1 [.int .i64 x] rfl rfl (by intro j u hj; match j, hj with | 0, hj => simp at hj; subst hj; simp [Addr.add]) (by intro u hu; simp at hu; subst hu; rfl) (by have := unhide HX; have := unhide H4; unfold maxLen; omega) (by have := unhide HX; have := unhide H4; omega) (by simp; omega) ?_; intro v' w2 hown hgrow hnil; clear hnil)
      have hout2 : WOut w2 b _ _ := (hout1.alloc (.cells #[.int .i64 x] 3)).other (World.ownsRow.alloc hints1 _) hgrow
      have hints2 : Ints w2 b v' (xs ++ [x]) := by
        show World.ownsRow _ _ _ _ _ (xs ++ [x]).length _
        simpa using hown
      have hbel3 : Below b w w2 := (hbel2.alloc (Nat.le_of_lt hlt1) _).grown hgrow (by simp; omega) (fun j hj => Nat.le_of_lt (World.ownsRow.lt hints1 j hj).1)
      clear hown hgrow hints1 hout1 hbel2
      go_wp2
      go_roundw
      case rel => exact ⟨k + 1, xs ++ [x], by have := unhide HK; omega, by go_num, by have := unhide HX; simp; omega, hints2, by rw [unhide hstep]; exact hout2, hbel3⟩
      case measure => simp [intOf]; omega
    · have hlk : Hid (l.take k = l) := List.take_of_length_le (by omega)
      clear h hw
      obtain ⟨va, vc, rfl⟩ : ∃ va vc, u5 = .slice va xs.length vc := by
        rcases hints.2 with ⟨e, h0⟩ | ⟨g, cp, _, e, _⟩
        · exact ⟨none, 0, by rw [e, h0]⟩
        · exact ⟨_, cp, e⟩
      go_wp2
      go_ret
      rw [unhide hlk] at hout
      exact ⟨⟨_, rfl⟩, hout, hbel⟩
set_option maxHeartbeats 800000 in
theorem walkW_any (b : Nat) (a : Option Addr) (cap : Nat) (l : List (Int × Int)) (w0 w : World) (h : PRow w0 a l) (h0 : Below b w0 w) (hs : w0.heap.size ≤ b) (hok : lOk l = true) (hw : WOut w b 0 0) :
    Calls Tryz.prog 96 #[.iface 160 (.pointer (some ⟨b, 0, none⟩)), .slice a l.length cap] w fun e w' =>
      (∃ v, e = .returned v) ∧ WOut w' b (valP l).1 (valP l).2 ∧ Below b w w' := by
  go_enter Tryz.func96, Tryz.ntmps96
  go_wp2_with fail
  refine (eachW_any b a cap l w0 _ h h0 hs hok hw).mono ?_
  rintro e w1 ⟨⟨v, rfl⟩, hout, hbel⟩
  go_wp2
  go_ret
  exact ⟨⟨_, rfl⟩, hout, hbel⟩
theorem wout_new (w : World) (t : TypeId) : WOut (w.alloc (.cells #[.slice none 0 0, .int .i64 0] t)) w.heap.size 0 0 :=
  ⟨by decide, .slice none 0 0, ⟨by simp, by simp, by simp, by simp, by simp⟩, World.ownsRow_nil _ _ _ _⟩
set_option maxHeartbeats 800000 in
theorem implBitsPut_any (a : Option Addr) (cap : Nat) (l : List (Int × Int)) (w : World) (h : PRow w a l) (hm : l.length ≤ 1000000000) :
    Calls Tryz.prog 68 #[.slice a l.length cap] w fun e w' => e = .returned (.string ⟨(putS l).toArray⟩) ∧ Below w.heap.size w w' := by
  cases hok : lOk l
  · have HI := hide (putS_no hok)
    have HL := longI_no hok
    go_enter Tryz.func68, Tryz.ntmps68
    go_wp2_with (go_at_call 95; refine (implBitsLong_any _ _ _ _ h hm).mono ?_; rintro e w1 ⟨rfl, hb1⟩; rw [HL])
    go_ret
    exact ⟨ret_str (a := []) (unhide HI).symm, hb1⟩
  · have HI := hide (putS_yes hok)
    have HL := longI_yes hok
    have hall : allOk l = true := by simp only [lOk, Bool.and_eq_true] at hok; exact hok.1
    obtain ⟨s0, _⟩ := sum_bd hall
    generalize sumBits l = sb at *
    clear hall
    go_enter Tryz.func68, Tryz.ntmps68
    go_wp2_with fail
    refine (implBitsLong_any _ _ _ _ h hm).mono ?_
    rintro e w1 ⟨rfl, hb1⟩
    rw [HL]
    clear HL
    have h1 := h.later hb1
    go_wp2_with fail
    refine (walkW_any w1.heap.size a cap l w1 _ h1 ((Below.refl _ _).alloc (Nat.le_refl _) _) (Nat.le_refl _) hok (wout_new w1 _)).mono ?_
    rintro e w2 ⟨⟨v0, rfl⟩, ⟨_, v, T, Y⟩, hb2⟩
    have hconv := conv_bytes Y
    obtain ⟨va, vc, rfl⟩ := Y.form
    obtain ⟨k0, k1, f0, f1, hb3⟩ := T
    clear k1 Y
    generalize hres : (leS (((valP l).2 + 7) / 8) (valP l).1) = res at *
    have HR : Hid (res = putS l) := by have h := unhide HI; rw [h, ← hres]; exact rfl
    clear hres
    go_wp2
    go_ret
    exact ⟨ret_str (unhide HR), bnext hb1 (((Below.refl _ _).alloc (Nat.le_refl _) _).trans hb2)⟩
end Go.Proofs.YtgpghapnmalipaaGreatDoor
namespace Go.Proofs.YtgpghapnmalipaaGreatDoor
open Corb
theorem leS_split (q k V W : Nat) (hV : V < 2 ^ (8 * q)) : leS (q + k) (V + W * 2 ^ (8 * q)) = leS q V ++ leS k W := by
  induction k with
  | zero => simp [leS, leS_add q V W (8 * q) (Nat.le_refl _)]
  | succ k ih =>
    rw [show q + (k + 1) = (q + k) + 1 by omega]
    simp only [leS]
    rw [ih, List.append_assoc]
    congr 3
    have e : 2 ^ (8 * (q + k)) = 2 ^ (8 * q) * 2 ^ (8 * k) := by rw [← Nat.pow_add]; congr 1; omega
    rw [e, ← Nat.div_div_eq_div_mul, Nat.add_mul_div_right _ _ (Nat.two_pow_pos _), Nat.div_eq_of_lt hV, Nat.zero_add]
theorem putV_shift (V m : Nat) (l : List (Nat × Nat)) : putV (V, m) l = (V + (putV (0, 0) l).1 * 2 ^ m, m + (putV (0, 0) l).2) := by
  have key : ∀ (l : List (Nat × Nat)) (W k : Nat), putV (V + W * 2 ^ m, m + k) l = (V + (putV (W, k) l).1 * 2 ^ m, m + (putV (W, k) l).2) := by
    intro l
    induction l with
    | nil => intro W k; rfl
    | cons p l ih =>
      intro W k
      simp only [putV]
      have e : V + W * 2 ^ m + p.1 * 2 ^ (m + k) = V + (W + p.1 * 2 ^ k) * 2 ^ m := by
        rw [Nat.add_mul, Nat.pow_add, Nat.mul_assoc, Nat.mul_comm (2 ^ m)]; omega
      rw [e, Nat.add_assoc m k p.2]
      exact ih _ _
  have := key l 0 0
  simpa using this
theorem valP_append (l m : List (Int × Int)) : valP (l ++ m) = ((valP l).1 + (valP m).1 * 2 ^ (valP l).2, (valP l).2 + (valP m).2) := by
  rw [valP, natP, List.map_append, putV_append]
  exact putV_shift _ _ _
theorem allOk_append (l m : List (Int × Int)) : allOk (l ++ m) = (allOk l && allOk m) := by simp [allOk]
theorem two_law (f b : List (Int × Int)) (hf : lOk f = true) (hb : lOk b = true) (hl : f.length + b.length ≤ 4000) (h8 : (valP f).2 % 8 = 0) : putS (f ++ b) = putS f ++ putS b := by
  have hfa : allOk f = true := by simp only [lOk, Bool.and_eq_true] at hf; exact hf.1
  have hba : allOk b = true := by simp only [lOk, Bool.and_eq_true] at hb; exact hb.1
  have hok : lOk (f ++ b) = true := by
    simp only [lOk, Bool.and_eq_true, decide_eq_true_iff, allOk_append]
    exact ⟨⟨hfa, hba⟩, by simpa using hl⟩
  rw [putS_yes hok, putS_yes hf, putS_yes hb, textP, textP, textP, valP_append]
  have hlt := valP_lt f hfa
  generalize valP f = F at *
  generalize valP b = B at *
  obtain ⟨V, m⟩ := F
  obtain ⟨W, k⟩ := B
  have h8' : m % 8 = 0 := h8
  have e : m = 8 * (m / 8) := by omega
  show leS ((m + k + 7) / 8) (V + W * 2 ^ m) = leS ((m + 7) / 8) V ++ leS ((k + 7) / 8) W
  rw [show (m + k + 7) / 8 = m / 8 + (k + 7) / 8 by omega, show (m + 7) / 8 = m / 8 by omega]
  have := leS_split (m / 8) ((k + 7) / 8) V W (by rw [← e]; exact hlt)
  rw [← e] at this
  exact this
end Go.Proofs.YtgpghapnmalipaaGreatDoor
namespace Go.Proofs.YtgpghapnmalipaaGreatDoor
open Go.RowKit Corb
set_option maxRecDepth 100000
theorem leS_four (V : Nat) : leS 4 V = leS 2 (V % 65536) ++ leS 2 (V / 65536) := by
  have := leS_split 2 2 (V % 65536) (V / 65536) (Nat.mod_lt _ (by decide))
  rw [← this]
  congr 1
  show V = V % 65536 + V / 65536 * 2 ^ 16
  omega
def wordP (ws : List Nat) : List (Int × Int) := ws.map fun (x : Nat) => (((x : Nat) : Int), (16 : Int))
theorem wordP_ok {ws : List Nat} (h : ∀ x ∈ ws, x < 65536) (hl : ws.length ≤ 100) : lOk (wordP ws) = true := by
  unfold lOk
  simp only [Bool.and_eq_true, decide_eq_true_eq]
  refine ⟨?_, by unfold wordP; rw [List.length_map]; omega⟩
  unfold allOk wordP
  rw [List.all_map, List.all_eq_true]
  intro x hx
  have h16 : p2 (16 : Int).toNat = 65536 := by decide
  have := h x hx
  show pOk ((x : Nat) : Int) 16 = true
  exact pOk_true.2 ⟨by omega, by omega, by rw [h16]; omega⟩
theorem words_put {ws : List Nat} (h : ∀ x ∈ ws, x < 65536) (hl : ws.length ≤ 100) : putS (wordP ws) = ws.flatMap (leS 2) := by
  induction ws with
  | nil => decide
  | cons x ws ih =>
    have hx : x < 65536 := h x (by simp)
    have h1 : lOk (wordP [x]) = true := wordP_ok (fun y hy => by rw [List.mem_singleton.1 hy]; exact hx) (by simp)
    have h2 : lOk (wordP ws) = true := wordP_ok (fun y hy => h y (by simp [hy])) (by simp at hl; omega)
    have e : wordP (x :: ws) = wordP [x] ++ wordP ws := rfl
    have e1 : valP (wordP [x]) = (x, 16) := by simp [valP, natP, putV, wordP]
    rw [e, two_law _ _ h1 h2 (by unfold wordP; simp at hl ⊢; omega) (by rw [e1]; exact (by decide : (16 : Nat) % 8 = 0)), ih (fun y hy => h y (by simp [hy])) (by simp at hl; omega), putS_yes h1, textP, e1, List.flatMap_cons]
    show leS ((16 + 7) / 8) x ++ _ = _
    rw [show (16 + 7) / 8 = 2 by decide]
set_option maxHeartbeats 1600000 in
theorem l6Bytes_any (V many : Nat) (w : World) (hV : V < 1099511627776) (hm : many ≤ 4) :
    Calls Tryz.prog 39 #[.int .i64 (V : Int), .int .i64 (many : Int)] w fun e w' => e = .returned (.string ⟨(leS many V).toArray⟩) ∧ Below w.heap.size w w' := by
  obtain ⟨i0, hi, hz0, hz1, hz2⟩ := info_parts Tryz.infoU8
  have hmI : (many : Int) ≤ 4 := by omega
  have hq0 : Hid (BOwn (w.alloc (.cells #[] 5)) w.heap.size (.slice (some ⟨w.heap.size, 0, none⟩) 0 0) (leS 0 V)) := BOwn.lit _ _ (Nat.le_refl _)
  have hb0 : Hid (Below w.heap.size w (w.alloc (.cells #[] 5))) := (Below.refl _ _).alloc (Nat.le_refl _) _
  go_enter Tryz.func39, Tryz.ntmps39
  go_wp2_with fail
  go_loopw [0, 5, 6] (fun x v i wr => ∃ k : Nat, k ≤ many ∧ i = .int .i64 k ∧ x = .int .i64 ((V / 2 ^ (8 * k) : Nat) : Int) ∧ BOwn wr w.heap.size v (leS k V) ∧ Below w.heap.size w wr) (fun _ _ i _ => many - (intOf i).toNat)
  case atStart => exact ⟨0, Nat.zero_le _, rfl, by simp, unhide hq0, unhide hb0⟩
  case round =>
    obtain ⟨k, hk, rfl, rfl, hq, hbel⟩ := hrel
    have hlen : Hid ((leS k V).length = k) := leS_len k V
    obtain ⟨va, vc, rfl⟩ := hq.formN (unhide hlen)
    clear hq0 hb0
    by_cases hlt : k < many
    · have hltI : (k : Int) < (many : Int) := by omega
      have hX : V / 2 ^ (8 * k) ≤ V := Nat.div_le_self _ _
      have hst : Hid (leS k V ++ [UInt8.ofNat (V / 2 ^ (8 * k) % 256)] = leS (k + 1) V) := rfl
      have hdv : Hid (V / 2 ^ (8 * k) / 256 = V / 2 ^ (8 * (k + 1))) := by show _ = _; rw [Nat.div_div_eq_div_mul, show 8 * (k + 1) = 8 * k + 8 by omega, Nat.pow_add]
      generalize V / 2 ^ (8 * k) = x at *
      have hxI : (x : Int) ≤ 1099511627776 := by omega
      obtain ⟨y, hy⟩ : ∃ y, x % 256 = y := ⟨_, rfl⟩
      have hyI : (x : Int) % 256 = (y : Int) := by omega
      have hyt : Int.tmod (x : Int) 256 = (y : Int) := by rw [Int.tmod_eq_emod_of_nonneg (by omega)]; exact hyI
      have hu : IntKind.u8.wrap (y : Int) = (y : Int) := by simp only [IntKind.wrap, IntKind.bits, IntKind.signed]; simp; omega
      have hyb : ((UInt8.ofNat y).toNat : Int) = (y : Int) := by rw [UInt8.toNat_ofNat']; omega
      obtain ⟨d, hd⟩ : ∃ d, x / 256 = d := ⟨_, rfl⟩
      have hdI : (x : Int) / 256 = (d : Int) := by omega
      rw [hy] at hst
      rw [hd] at hdv
      have bd : Hid (k + 1 ≤ maxLen ∧ (k + 1) * 1 ≤ 140737488355328) := by show _ ∧ _; unfold maxLen; omega
      have hqo := hide (hq.own (unhide hlen))
      have hbs := hbel.size
      have HBel := hide hbel
      clear hq hbel hy hd
      go_wp2_with (at_builtin; refine wpList_append_own _ rfl _ _ 92 rfl w.heap.size 5 i0 (.int .u8 0) 1 1 Tryz.underlying92 hi hz0 hz1 hz2 rfl (by decide) _ _ _ rfl (World.ownsRow.alloc (unhide hqo) _) ⟨wr.heap.size, 0, none⟩ 1 1 [.int .u8 (y : Int)] rfl rfl (one_new _ _ rfl _ _) (one_byte _) (unhide bd).1 (unhide bd).2 (size_alloc_le hbs _) ?_; intro v' x2 hown hgrow hnil; clear hnil)
      have hb2 := grown_step (v := .slice va k vc) hgrow (unhide hqo) (Nat.le_refl _) hbs (unhide HBel)
      have hown' : World.ownsRow x2 w.heap.size 5 1 v' (k + 1) (bcells (leS k V) ++ [.int .u8 ((UInt8.ofNat y).toNat : Int)]) := by rw [hyb]; exact hown
      have hq2 := bown_snoc (b := UInt8.ofNat y) (unhide hlen) hown'
      rw [unhide hst] at hq2
      clear hown hown' hgrow
      go_wp2
      go_roundw
      case rel => exact ⟨k + 1, by omega, by go_num, by rw [← unhide hdv], hq2, hb2⟩
      case measure => simp [intOf]; omega
    · obtain rfl : k = many := by omega
      have hltI : ¬ (k : Int) < (k : Int) := by omega
      have hcv := hq.text
      have HB := hide hbel
      clear hq hbel
      go_wp2
      go_ret
      exact ⟨rfl, unhide HB⟩
end Go.Proofs.YtgpghapnmalipaaGreatDoor
namespace Go.Proofs.YtgpghapnmalipaaGreatDoor
open Go.RowKit Corb
set_option maxRecDepth 100000
def wordI (ws : List Nat) : List Int := ws.map fun (x : Nat) => ((x : Nat) : Int)
theorem wordI_get (ws : List Nat) (k : Nat) (h : k < ws.length) : (wordI ws).getD k 0 = ((ws.getD k 0 : Nat) : Int) := by
  unfold wordI
  simp [List.getD, h]
theorem wordP_take (ws : List Nat) (k : Nat) (h : k < ws.length) : wordP (ws.take (k + 1)) = wordP (ws.take k) ++ [(((ws.getD k 0 : Nat) : Int), (16 : Int))] := by
  unfold wordP
  rw [List.take_succ_eq_append_getElem h, List.map_append]
  simp [List.getD, h]
theorem word_any (x : Int) (w : World) : Calls Tryz.prog 70 #[.int .i64 x] w fun e w' => e = .returned (.agg #[.int .i64 x, .int .i64 16]) ∧ Below w.heap.size w w' := by
  go_enter Tryz.func70, Tryz.ntmps70
  go_wp2
  refine bodyPost_ret (v := .agg #[.int .i64 x, .int .i64 16]) (by simp [results, Tryz.results70, go_sem]) rfl ⟨rfl, ?_⟩
  exact (Below.refl _ _).alloc (Nat.le_refl _) _
set_option maxHeartbeats 1600000 in
theorem eachWd_any (a : Option Addr) (cap n : Nat) (ws : List Nat) (w : World) (hn : ws.length = n) (h : IRow w a (wordI ws)) (hm : n ≤ 100) :
    Calls Tryz.prog 69 #[.slice a n cap, .func (.func 70) #[] #[]] w fun e w' => ∃ v, e = .returned v ∧ Pcs w' w.heap.size v (wordP ws) ∧ Below w.heap.size w w' := by
  have hmI : (n : Int) ≤ 100 := by omega
  have Hn := hide hn
  have Hm := hide hm
  have Hl : Hid ((wordI ws).length = n) := by show _ = _; unfold wordI; rw [List.length_map]; exact hn
  clear hn hm
  obtain ⟨i0, hi, hz0, hz1, hz2⟩ := info_parts Tryz.infoPiece
  go_enter Tryz.func69, Tryz.ntmps69
  go_wp2_with fail
  go_loopw [5, 7, 10] (fun o _ i wr => ∃ k : Nat, k ≤ n ∧ i = .int .i64 k ∧ Pcs wr w.heap.size o (wordP (ws.take k)) ∧ Below w.heap.size w wr) (fun _ _ i _ => n - (intOf i).toNat)
  case atStart => exact ⟨0, Nat.zero_le _, rfl, World.ownsRow_nil _ _ _ _, Below.refl _ _⟩
  case round =>
    obtain ⟨k, hk, rfl, hq, hbel⟩ := hrel
    have hbs := hbel.size
    by_cases hlt : k < n
    · obtain ⟨g, o, rfl, hg, hcc⟩ := (h.later hbel) (by rw [unhide Hl]; omega)
      have c0 := hcc k (by rw [unhide Hl]; exact hlt)
      rw [wordI_get ws k (by rw [unhide Hn]; exact hlt)] at c0
      have hst := hide (wordP_take ws k (by rw [unhide Hn]; exact hlt))
      have hlk : Hid ((wordP (ws.take k)).length = k) := by show _ = _; unfold wordP; have := unhide Hn; simp; omega
      have Hk := hide hk
      clear hcc hk h
      generalize ((ws.getD k 0 : Nat) : Int) = y at *
      have HP := hide (word_any y wr)
      go_wp2_with fail
      refine (unhide HP).mono ?_
      rintro e x1 ⟨rfl, hb1⟩
      have hq1 := Pcs.later hq hb1 (Nat.le_refl _)
      have hbel1 := bnext hbel hb1
      have hbs1 := hbel1.size
      have hlen1 : Hid ((wordP (ws.take k)).length + 1 ≤ maxLen ∧ ((wordP (ws.take k)).length + 1) * 16 ≤ 140737488355328) := by
        show _ ∧ _
        rw [unhide hlk]
        have := unhide Hm
        unfold maxLen
        omega
      clear hq hbel hb1 HP
      go_wp2_with (at_builtin; refine wpList_append_own _ rfl _ _ 109 rfl w.heap.size 112 i0 (.agg #[.int .i64 0, .int .i64 0]) 2 16 Tryz.underlying109 hi hz0 hz1 hz2 rfl (by decide) _ _ _ rfl (World.ownsRow.alloc hq1 _) ⟨x1.heap.size, 0, none⟩ 1 1 [.int .i64 y, .int .i64 16] rfl rfl (two_new x1 _ _ _) (two_int _ _) (unhide hlen1).1 (unhide hlen1).2 (size_alloc_le hbs1 _) ?_; intro v' x2 hown hgrow hnil; clear hnil)
      have hb2 := grown_step (v := u5) hgrow hq1 (Nat.le_refl _) hbs1 hbel1
      have hq2 := pcs_snoc hown
      rw [← unhide hst] at hq2
      clear hown hgrow hq1
      go_wp2
      go_roundw
      case rel => exact ⟨k + 1, by have := unhide Hk; omega, by go_num, hq2, hb2⟩
      case measure => simp [intOf]; omega
    · have hkn : ws.take k = ws := List.take_of_length_le (by rw [unhide Hn]; omega)
      rw [hkn] at hq
      have HQ := hide hq
      have HB := hide hbel
      clear hq hbel hkn
      go_wp2
      go_ret
      exact ⟨_, rfl, unhide HQ, unhide HB⟩
theorem wordsPut_any (a : Option Addr) (cap n : Nat) (ws : List Nat) (w : World) (hn : ws.length = n) (h : IRow w a (wordI ws)) (hm : n ≤ 100) (hw : ∀ x ∈ ws, x < 65536) :
    Calls Tryz.prog 46 #[.slice a n cap] w fun e w' => e = .returned (.string ⟨(ws.flatMap (leS 2)).toArray⟩) ∧ Below w.heap.size w w' := by
  have HE := hide (eachWd_any a cap n ws w hn h hm)
  have HW := hide (words_put hw (by omega))
  have hl : (wordP ws).length = n := by unfold wordP; rw [List.length_map]; exact hn
  have Hl := hide hl
  have Hm := hide hm
  clear hn h hm hw hl
  go_enter Tryz.func46, Tryz.ntmps46
  go_wp2_with fail
  refine (unhide HE).mono ?_
  rintro e w1 ⟨v, rfl, hP, hb1⟩
  obtain ⟨a1, c1, rfl⟩ := hP.formN (unhide Hl)
  have HC := implBitsPut_any a1 c1 (wordP ws) w1 (hP.rowN (unhide Hl)) (by have := unhide Hl; have := unhide Hm; omega)
  rw [unhide HW, unhide Hl] at HC
  have HC' := hide HC
  have HB := hide hb1
  clear hP hb1 HC HE
  go_wp2_with fail
  refine (unhide HC').mono ?_
  rintro e w2 ⟨rfl, hb2⟩
  have HB2 := hide (bnext (unhide HB) hb2)
  clear hb2
  go_wp2
  go_ret
  exact ⟨rfl, unhide HB2⟩
theorem longPut_any (V : Nat) (w : World) (hV : V < 4294967296) :
    Calls Tryz.prog 47 #[.int .i64 (V : Int)] w fun e w' => e = .returned (.string ⟨(leS 4 V).toArray⟩) ∧ Below w.heap.size w w' := by
  have hVI : (V : Int) < 4294967296 := by omega
  have e1 : bits .and .i64 (V : Int) 65535 = ((V % 65536 : Nat) : Int) := by
    have := i64_and_low (V : Int) (by omega) (by omega)
    rw [this]
    omega
  have HF : Hid ([V % 65536, V / 65536].flatMap (leS 2) = leS 4 V) := by
    show _ = _
    rw [leS_four]
    simp
  have hq : V / 65536 < 65536 := by omega
  have HR : Hid (IRow (w.alloc (.cells #[.int .i64 ((V % 65536 : Nat) : Int), .int .i64 ((V / 65536 : Nat) : Int)] 3)) (some ⟨w.heap.size, 0, none⟩) (wordI [V % 65536, V / 65536])) := by
    intro _
    refine ⟨w.heap.size, 0, rfl, by simp, fun i hi => ?_⟩
    match i, hi with
    | 0, _ => simp [wordI]
    | 1, _ => simp [wordI]
  have HC := hide (wordsPut_any (some ⟨w.heap.size, 0, none⟩) 2 2 [V % 65536, V / 65536] _ rfl (unhide HR) (by omega) (fun x hx => by
    simp only [List.mem_cons, List.mem_nil_iff, or_false] at hx
    rcases hx with rfl | rfl
    · exact Nat.mod_lt _ (by decide)
    · exact hq))
  rw [unhide HF] at HC
  have HA : Hid (Below w.heap.size w (w.alloc (.cells #[.int .i64 ((V % 65536 : Nat) : Int), .int .i64 ((V / 65536 : Nat) : Int)] 3))) := (Below.refl _ _).alloc (Nat.le_refl _) _
  generalize hx : V % 65536 = x at *
  generalize hy : V / 65536 = y at *
  have e2 : (V : Int) / 65536 = (y : Int) := by omega
  clear HF HR hx
  go_enter Tryz.func47, Tryz.ntmps47
  go_wp2_with fail
  refine (unhide HC).mono ?_
  rintro e w1 ⟨rfl, hb1⟩
  have HB := hide (bnext (unhide HA) hb1)
  clear hb1
  go_wp2
  go_ret
  exact ⟨rfl, unhide HB⟩
end Go.Proofs.YtgpghapnmalipaaGreatDoor
namespace Go.Proofs.YtgpghapnmalipaaGreatDoor
open Go.RowKit Corb
set_option maxRecDepth 100000
def SixB (W : World) (g : Nat) (how st crc pk lg : Nat) (nm : ByteArray) : Prop := W.cell? ⟨g, 0, none⟩ = some (.int .i64 (how : Nat)) ∧ W.cell? ⟨g, 1, none⟩ = some (.int .i64 (st : Nat)) ∧ W.cell? ⟨g, 2, none⟩ = some (.int .i64 (crc : Nat)) ∧ W.cell? ⟨g, 3, none⟩ = some (.int .i64 (pk : Nat)) ∧ W.cell? ⟨g, 4, none⟩ = some (.int .i64 (lg : Nat)) ∧ W.cell? ⟨g, 5, none⟩ = some (.string nm)
def TolS (w : World) (how st crc pk lg : Nat) (nm : ByteArray) (W : World) : Prop := Below w.heap.size w W ∧ w.heap.size < W.heap.size ∧ SixB W w.heap.size how st crc pk lg nm
theorem TolS.later {w W W' : World} {how st crc pk lg : Nat} {nm : ByteArray} (h : TolS w how st crc pk lg nm W) (hb : Below W.heap.size W W') : TolS w how st crc pk lg nm W' := by
  have hc : ∀ j, W'.cell? ⟨w.heap.size, j, none⟩ = W.cell? ⟨w.heap.size, j, none⟩ := fun j => hb.cell (p := ⟨w.heap.size, j, none⟩) h.2.1
  exact ⟨h.1.trans (hb.mono (Nat.le_of_lt h.2.1)), Nat.lt_of_lt_of_le h.2.1 hb.size, (hc 0).trans h.2.2.1, (hc 1).trans h.2.2.2.1, (hc 2).trans h.2.2.2.2.1, (hc 3).trans h.2.2.2.2.2.1, (hc 4).trans h.2.2.2.2.2.2.1, (hc 5).trans h.2.2.2.2.2.2.2⟩
theorem three_row (W : World) (x y z : Nat) : IRow (W.alloc (.cells #[.int .i64 ((x : Nat) : Int), .int .i64 ((y : Nat) : Int), .int .i64 ((z : Nat) : Int)] 3)) (some ⟨W.heap.size, 0, none⟩) (wordI [x, y, z]) := by
  intro _
  refine ⟨W.heap.size, 0, rfl, by simp, fun i hi => ?_⟩
  match i, hi with
  | 0, _ => simp [wordI]
  | 1, _ => simp [wordI]
  | 2, _ => simp [wordI]
theorem two_row (W : World) (x y : Nat) : IRow (W.alloc (.cells #[.int .i64 ((x : Nat) : Int), .int .i64 ((y : Nat) : Int)] 3)) (some ⟨W.heap.size, 0, none⟩) (wordI [x, y]) := by
  intro _
  refine ⟨W.heap.size, 0, rfl, by simp, fun i hi => ?_⟩
  match i, hi with
  | 0, _ => simp [wordI]
  | 1, _ => simp [wordI]
def strL (l : List UInt8) : ByteArray := ⟨l.toArray⟩
def toldB (how st crc pk lg n : Nat) : ByteArray := strL ([20, 0, how].flatMap (leS 2)) ++ strL (leS 4 st) ++ strL (leS 4 crc) ++ strL (leS 4 pk) ++ strL (leS 4 lg) ++ strL ([n, 0].flatMap (leS 2))
set_option maxHeartbeats 6400000 in
theorem told_any (how st crc pk lg : Nat) (nm : ByteArray) (w : World) (h0 : how < 65536) (h1 : st < 4294967296) (h2 : crc < 4294967296) (h3 : pk < 4294967296) (h4 : lg < 4294967296) (h5 : nm.size < 65536) :
    Calls Tryz.prog 67 #[.agg #[.int .i64 (how : Nat), .int .i64 (st : Nat), .int .i64 (crc : Nat), .int .i64 (pk : Nat), .int .i64 (lg : Nat), .string nm]] w fun e w' => e = .returned (.string (toldB how st crc pk lg nm.size)) ∧ Below w.heap.size w w' := by
  have hmix : Tryz.prog.follows .mixedOrders = true := by kernel_rfl
  have CW0 : Hid (∀ g W, IRow W (some ⟨g, 0, none⟩) (wordI [20, 0, how]) → Calls Tryz.prog 46 #[.slice (some ⟨g, 0, none⟩) 3 3] W fun e w' => e = .returned (.string (strL ([20, 0, how].flatMap (leS 2)))) ∧ Below W.heap.size W w') := fun g W h => wordsPut_any _ 3 3 [20, 0, how] W rfl h (by omega) (fun x hx => by simp at hx; omega)
  have CW1 : Hid (∀ g W, IRow W (some ⟨g, 0, none⟩) (wordI [nm.size, 0]) → Calls Tryz.prog 46 #[.slice (some ⟨g, 0, none⟩) 2 2] W fun e w' => e = .returned (.string (strL ([nm.size, 0].flatMap (leS 2)))) ∧ Below W.heap.size W w') := fun g W h => wordsPut_any _ 2 2 [nm.size, 0] W rfl h (by omega) (fun x hx => by simp at hx; omega)
  have CLA1 : Hid (∀ W, Calls Tryz.prog 47 #[.int .i64 (st : Int)] W fun e w' => e = .returned (.string (strL (leS 4 st))) ∧ Below W.heap.size W w') := fun W => longPut_any st W h1
  have CLA2 : Hid (∀ W, Calls Tryz.prog 47 #[.int .i64 (crc : Int)] W fun e w' => e = .returned (.string (strL (leS 4 crc))) ∧ Below W.heap.size W w') := fun W => longPut_any crc W h2
  have CLA3 : Hid (∀ W, Calls Tryz.prog 47 #[.int .i64 (pk : Int)] W fun e w' => e = .returned (.string (strL (leS 4 pk))) ∧ Below W.heap.size W w') := fun W => longPut_any pk W h3
  have CLA4 : Hid (∀ W, Calls Tryz.prog 47 #[.int .i64 (lg : Int)] W fun e w' => e = .returned (.string (strL (leS 4 lg))) ∧ Below W.heap.size W w') := fun W => longPut_any lg W h4
  have hz : ∀ l : List UInt8, (strL l).size = l.length := fun l => by simp [strL, ByteArray.size]
  have z0 : ((strL ([20, 0, how].flatMap (leS 2))).size : Int) ≤ 100 := by rw [hz]; simp [leS_len]
  have z5 : ((strL ([nm.size, 0].flatMap (leS 2))).size : Int) ≤ 100 := by rw [hz]; simp [leS_len]
  have z1 : ((strL (leS 4 st)).size : Int) ≤ 100 := by rw [hz, leS_len]; omega
  have z2 : ((strL (leS 4 crc)).size : Int) ≤ 100 := by rw [hz, leS_len]; omega
  have z3 : ((strL (leS 4 pk)).size : Int) ≤ 100 := by rw [hz, leS_len]; omega
  have z4 : ((strL (leS 4 lg)).size : Int) ≤ 100 := by rw [hz, leS_len]; omega
  unfold toldB
  generalize strL ([20, 0, how].flatMap (leS 2)) = A0 at *
  generalize strL ([nm.size, 0].flatMap (leS 2)) = A5 at *
  generalize strL (leS 4 st) = A1 at *
  generalize strL (leS 4 crc) = A2 at *
  generalize strL (leS 4 pk) = A3 at *
  generalize strL (leS 4 lg) = A4 at *
  have hnI : (nm.size : Int) < 65536 := by omega
  have T0' : Hid (TolS w how st crc pk lg nm (w.alloc (.cells #[.int .i64 (how : Nat), .int .i64 (st : Nat), .int .i64 (crc : Nat), .int .i64 (pk : Nat), .int .i64 (lg : Nat), .string nm] 48))) := ⟨(Below.refl _ _).alloc (Nat.le_refl _) _, by simp, by simp, by simp, by simp, by simp, by simp, by simp⟩
  clear h0 h1 h2 h3 h4 h5 hz
  go_enter Tryz.func67, Tryz.ntmps67
  go_wp2_with fail
  obtain ⟨W0, hW0⟩ : ∃ x, w.alloc (.cells #[.int .i64 (how : Nat), .int .i64 (st : Nat), .int .i64 (crc : Nat), .int .i64 (pk : Nat), .int .i64 (lg : Nat), .string nm] 48) = x := ⟨_, rfl⟩
  rw [hW0] at T0'
  rw [hW0]
  have T0 := T0'
  clear T0' hW0
  refine wp_region_held_drew (S := fun W => SixB W w.heap.size how st crc pk lg nm) hmix (unhide T0).2.2 (fun hS => ?_)
  refine wpAnyH_take (i := 0) (v := .pointer (some ⟨w.heap.size, 0, none⟩)) rfl (by kernel_rfl) (by kernel_rfl) (by kernel_rfl) (fun _ _ _ h => h) (Or.inl ⟨by rfl, fun W hSw => by obtain ⟨s0, s1, s2, s3, s4, s5⟩ := hSw; go_simp⟩) hS ?_
  refine wpAnyH_take (i := 1) (v := .int .i64 (how : Nat)) rfl (by kernel_rfl) (by kernel_rfl) (by kernel_rfl) (fun _ _ _ h => h) (Or.inl ⟨by rfl, fun W hSw => by obtain ⟨s0, s1, s2, s3, s4, s5⟩ := hSw; go_simp⟩) hS ?_
  refine wpAnyH_take (i := 4) (v := .pointer (some ⟨w.heap.size, 1, none⟩)) rfl (by kernel_rfl) (by kernel_rfl) (by kernel_rfl) (fun _ _ _ h => h) (Or.inl ⟨by rfl, fun W hSw => by obtain ⟨s0, s1, s2, s3, s4, s5⟩ := hSw; go_simp⟩) hS ?_
  refine wpAnyH_take (i := 5) (v := .int .i64 (st : Nat)) rfl (by kernel_rfl) (by kernel_rfl) (by kernel_rfl) (fun _ _ _ h => h) (Or.inl ⟨by rfl, fun W hSw => by obtain ⟨s0, s1, s2, s3, s4, s5⟩ := hSw; go_simp⟩) hS ?_
  refine wpAnyH_take (i := 8) (v := .pointer (some ⟨w.heap.size, 2, none⟩)) rfl (by kernel_rfl) (by kernel_rfl) (by kernel_rfl) (fun _ _ _ h => h) (Or.inl ⟨by rfl, fun W hSw => by obtain ⟨s0, s1, s2, s3, s4, s5⟩ := hSw; go_simp⟩) hS ?_
  refine wpAnyH_take (i := 9) (v := .int .i64 (crc : Nat)) rfl (by kernel_rfl) (by kernel_rfl) (by kernel_rfl) (fun _ _ _ h => h) (Or.inl ⟨by rfl, fun W hSw => by obtain ⟨s0, s1, s2, s3, s4, s5⟩ := hSw; go_simp⟩) hS ?_
  refine wpAnyH_take (i := 12) (v := .pointer (some ⟨w.heap.size, 3, none⟩)) rfl (by kernel_rfl) (by kernel_rfl) (by kernel_rfl) (fun _ _ _ h => h) (Or.inl ⟨by rfl, fun W hSw => by obtain ⟨s0, s1, s2, s3, s4, s5⟩ := hSw; go_simp⟩) hS ?_
  refine wpAnyH_take (i := 13) (v := .int .i64 (pk : Nat)) rfl (by kernel_rfl) (by kernel_rfl) (by kernel_rfl) (fun _ _ _ h => h) (Or.inl ⟨by rfl, fun W hSw => by obtain ⟨s0, s1, s2, s3, s4, s5⟩ := hSw; go_simp⟩) hS ?_
  refine wpAnyH_take (i := 16) (v := .pointer (some ⟨w.heap.size, 4, none⟩)) rfl (by kernel_rfl) (by kernel_rfl) (by kernel_rfl) (fun _ _ _ h => h) (Or.inl ⟨by rfl, fun W hSw => by obtain ⟨s0, s1, s2, s3, s4, s5⟩ := hSw; go_simp⟩) hS ?_
  refine wpAnyH_take (i := 17) (v := .int .i64 (lg : Nat)) rfl (by kernel_rfl) (by kernel_rfl) (by kernel_rfl) (fun _ _ _ h => h) (Or.inl ⟨by rfl, fun W hSw => by obtain ⟨s0, s1, s2, s3, s4, s5⟩ := hSw; go_simp⟩) hS ?_
  refine wpAnyH_take (i := 20) (v := .pointer (some ⟨w.heap.size, 5, none⟩)) rfl (by kernel_rfl) (by kernel_rfl) (by kernel_rfl) (fun _ _ _ h => h) (Or.inl ⟨by rfl, fun W hSw => by obtain ⟨s0, s1, s2, s3, s4, s5⟩ := hSw; go_simp⟩) hS ?_
  refine wpAnyH_take (i := 21) (v := .string nm) rfl (by kernel_rfl) (by kernel_rfl) (by kernel_rfl) (fun _ _ _ h => h) (Or.inl ⟨by rfl, fun W hSw => by obtain ⟨s0, s1, s2, s3, s4, s5⟩ := hSw; go_simp⟩) hS ?_
  refine wpAnyH_take (i := 22) (v := .int .i64 (nm.size : Nat)) rfl (by kernel_rfl) (by kernel_rfl) (by kernel_rfl) (fun _ _ _ h => h) (Or.inl ⟨by rfl, fun W hSw => by obtain ⟨s0, s1, s2, s3, s4, s5⟩ := hSw; go_simp⟩) hS ?_
  have T1 : Hid (TolS w how st crc pk lg nm W0.drew) := ⟨(unhide T0).1.drew, (unhide T0).2.1, (unhide T0).2.2⟩
  generalize W0.drew = W1 at *
  refine wpAnyH_ready (rs := [2, 23]) (by kernel_rfl) (by simp) ?_
  refine AllReadyH.cons rfl (fun K hK => ?_) (AllReadyH.cons rfl (fun K hK => ?_) (AllReadyH.nil))
  · go_simp
    have Bd : Below W1.heap.size W1 (W1.alloc (.cells #[.int .i64 20, .int .i64 0, .int .i64 ((how : Nat) : Int)] 3)) := (Below.refl _ _).alloc (Nat.le_refl _) _
    have T2 := hide ((unhide T1).later Bd)
    have R02 : Hid (IRow (W1.alloc (.cells #[.int .i64 20, .int .i64 0, .int .i64 ((how : Nat) : Int)] 3)) (some ⟨W1.heap.size, 0, none⟩) (wordI [20, 0, how])) := three_row _ _ _ _
    refine Shut.out hK _ _ (unhide T2).2.2 (fun hS => ?_)
    clear hK K
    obtain ⟨R0g, hR0g⟩ : ∃ x, W1.heap.size = x := ⟨_, rfl⟩
    obtain ⟨W2, hW2⟩ : ∃ x, W1.alloc (.cells #[.int .i64 20, .int .i64 0, .int .i64 ((how : Nat) : Int)] 3) = x := ⟨_, rfl⟩
    rw [hW2] at T2 hS
    rw [hR0g, hW2] at R02
    rw [hR0g, hW2]
    clear Bd
    refine wpAnyH_ready (rs := [3, 23]) (by kernel_rfl) (by simp) ?_
    refine AllReadyH.cons rfl (fun K hK => ?_) (AllReadyH.cons rfl (fun K hK => ?_) (AllReadyH.nil))
    · go_simp
      go_at_call 46
      refine (unhide CW0 R0g W2 (unhide R02)).mono ?_
      rintro e W3 ⟨rfl, Bd⟩
      have T3 := hide ((unhide T2).later Bd)
      refine Shut.out hK _ _ (unhide T3).2.2 (fun hS => ?_)
      clear hK K
      clear Bd
      refine wpAnyH_ready (rs := [6, 23]) (by kernel_rfl) (by simp) ?_
      refine AllReadyH.cons rfl (fun K hK => ?_) (AllReadyH.cons rfl (fun K hK => ?_) (AllReadyH.nil))
      · go_simp
        go_at_call 47
        refine (unhide CLA1 W3).mono ?_
        rintro e W4 ⟨rfl, Bd⟩
        have T4 := hide ((unhide T3).later Bd)
        refine Shut.out hK _ _ (unhide T4).2.2 (fun hS => ?_)
        clear hK K
        clear Bd
        refine wpAnyH_take (i := 7) (v := .string (A0 ++ A1)) rfl (by kernel_rfl) (by kernel_rfl) (by kernel_rfl) (fun _ _ _ h => h) (Or.inl ⟨by rfl, fun W hSw => by obtain ⟨s0, s1, s2, s3, s4, s5⟩ := hSw; go_simp <;> omega⟩) hS ?_
        refine wpAnyH_ready (rs := [10, 23]) (by kernel_rfl) (by simp) ?_
        refine AllReadyH.cons rfl (fun K hK => ?_) (AllReadyH.cons rfl (fun K hK => ?_) (AllReadyH.nil))
        · go_simp
          go_at_call 47
          refine (unhide CLA2 W4).mono ?_
          rintro e W5 ⟨rfl, Bd⟩
          have T5 := hide ((unhide T4).later Bd)
          refine Shut.out hK _ _ (unhide T5).2.2 (fun hS => ?_)
          clear hK K
          clear Bd
          refine wpAnyH_take (i := 11) (v := .string (A0 ++ A1 ++ A2)) rfl (by kernel_rfl) (by kernel_rfl) (by kernel_rfl) (fun _ _ _ h => h) (Or.inl ⟨by rfl, fun W hSw => by obtain ⟨s0, s1, s2, s3, s4, s5⟩ := hSw; go_simp <;> omega⟩) hS ?_
          refine wpAnyH_ready (rs := [14, 23]) (by kernel_rfl) (by simp) ?_
          refine AllReadyH.cons rfl (fun K hK => ?_) (AllReadyH.cons rfl (fun K hK => ?_) (AllReadyH.nil))
          · go_simp
            go_at_call 47
            refine (unhide CLA3 W5).mono ?_
            rintro e W6 ⟨rfl, Bd⟩
            have T6 := hide ((unhide T5).later Bd)
            refine Shut.out hK _ _ (unhide T6).2.2 (fun hS => ?_)
            clear hK K
            clear Bd
            refine wpAnyH_take (i := 15) (v := .string (A0 ++ A1 ++ A2 ++ A3)) rfl (by kernel_rfl) (by kernel_rfl) (by kernel_rfl) (fun _ _ _ h => h) (Or.inl ⟨by rfl, fun W hSw => by obtain ⟨s0, s1, s2, s3, s4, s5⟩ := hSw; go_simp <;> omega⟩) hS ?_
            refine wpAnyH_ready (rs := [18, 23]) (by kernel_rfl) (by simp) ?_
            refine AllReadyH.cons rfl (fun K hK => ?_) (AllReadyH.cons rfl (fun K hK => ?_) (AllReadyH.nil))
            · go_simp
              go_at_call 47
              refine (unhide CLA4 W6).mono ?_
              rintro e W7 ⟨rfl, Bd⟩
              have T7 := hide ((unhide T6).later Bd)
              refine Shut.out hK _ _ (unhide T7).2.2 (fun hS => ?_)
              clear hK K
              clear Bd
              refine wpAnyH_take (i := 19) (v := .string (A0 ++ A1 ++ A2 ++ A3 ++ A4)) rfl (by kernel_rfl) (by kernel_rfl) (by kernel_rfl) (fun _ _ _ h => h) (Or.inl ⟨by rfl, fun W hSw => by obtain ⟨s0, s1, s2, s3, s4, s5⟩ := hSw; go_simp <;> omega⟩) hS ?_
              refine wpAnyH_ready (rs := [23]) (by kernel_rfl) (by simp) ?_
              refine AllReadyH.cons rfl (fun K hK => ?_) (AllReadyH.nil)
              go_simp
              have Bd : Below W7.heap.size W7 (W7.alloc (.cells #[.int .i64 ((nm.size : Nat) : Int), .int .i64 0] 3)) := (Below.refl _ _).alloc (Nat.le_refl _) _
              have T8 := hide ((unhide T7).later Bd)
              have R18 : Hid (IRow (W7.alloc (.cells #[.int .i64 ((nm.size : Nat) : Int), .int .i64 0] 3)) (some ⟨W7.heap.size, 0, none⟩) (wordI [nm.size, 0])) := two_row _ _ _
              refine Shut.out hK _ _ (unhide T8).2.2 (fun hS => ?_)
              clear hK K
              obtain ⟨R1g, hR1g⟩ : ∃ x, W7.heap.size = x := ⟨_, rfl⟩
              obtain ⟨W8, hW8⟩ : ∃ x, W7.alloc (.cells #[.int .i64 ((nm.size : Nat) : Int), .int .i64 0] 3) = x := ⟨_, rfl⟩
              rw [hW8] at T8 hS
              rw [hR1g, hW8] at R18
              rw [hR1g, hW8]
              clear Bd
              refine wpAnyH_ready (rs := [24]) (by kernel_rfl) (by simp) ?_
              refine AllReadyH.cons rfl (fun K hK => ?_) (AllReadyH.nil)
              go_simp
              go_at_call 46
              refine (unhide CW1 R1g W8 (unhide R18)).mono ?_
              rintro e W9 ⟨rfl, Bd⟩
              have T9 := hide ((unhide T8).later Bd)
              refine Shut.out hK _ _ (unhide T9).2.2 (fun hS => ?_)
              clear hK K
              clear Bd
              refine wpAnyH_take (i := 25) (v := .string (A0 ++ A1 ++ A2 ++ A3 ++ A4 ++ A5)) rfl (by kernel_rfl) (by kernel_rfl) (by kernel_rfl) (fun _ _ _ h => h) (Or.inl ⟨by rfl, fun W hSw => by obtain ⟨s0, s1, s2, s3, s4, s5⟩ := hSw; go_simp <;> omega⟩) hS ?_
              refine wpAnyH_ready (rs := [26]) (by kernel_rfl) (by simp) ?_
              refine AllReadyH.cons rfl (fun K hK => ?_) (AllReadyH.nil)
              go_simp
              refine Shut.out hK _ _ (unhide T9).2.2 (fun hS => ?_)
              clear hK K
              refine wpAnyH_done (by kernel_rfl) ?_ _
              generalize hAA : A0 ++ A1 ++ A2 ++ A3 ++ A4 ++ A5 = AA
              go_wp2
              go_ret
              exact ⟨by subst hAA; rfl, (unhide T9).1⟩
            · go_simp
              have Bd : Below W6.heap.size W6 (W6.alloc (.cells #[.int .i64 ((nm.size : Nat) : Int), .int .i64 0] 3)) := (Below.refl _ _).alloc (Nat.le_refl _) _
              have T7 := hide ((unhide T6).later Bd)
              have R17 : Hid (IRow (W6.alloc (.cells #[.int .i64 ((nm.size : Nat) : Int), .int .i64 0] 3)) (some ⟨W6.heap.size, 0, none⟩) (wordI [nm.size, 0])) := two_row _ _ _
              refine Shut.out hK _ _ (unhide T7).2.2 (fun hS => ?_)
              clear hK K
              obtain ⟨R1g, hR1g⟩ : ∃ x, W6.heap.size = x := ⟨_, rfl⟩
              obtain ⟨W7, hW7⟩ : ∃ x, W6.alloc (.cells #[.int .i64 ((nm.size : Nat) : Int), .int .i64 0] 3) = x := ⟨_, rfl⟩
              rw [hW7] at T7 hS
              rw [hR1g, hW7] at R17
              rw [hR1g, hW7]
              clear Bd
              refine wpAnyH_ready (rs := [18]) (by kernel_rfl) (by simp) ?_
              refine AllReadyH.cons rfl (fun K hK => ?_) (AllReadyH.nil)
              go_simp
              go_at_call 47
              refine (unhide CLA4 W7).mono ?_
              rintro e W8 ⟨rfl, Bd⟩
              have T8 := hide ((unhide T7).later Bd)
              have R18 := hide ((unhide R17).later Bd)
              refine Shut.out hK _ _ (unhide T8).2.2 (fun hS => ?_)
              clear hK K
              clear Bd
              refine wpAnyH_take (i := 19) (v := .string (A0 ++ A1 ++ A2 ++ A3 ++ A4)) rfl (by kernel_rfl) (by kernel_rfl) (by kernel_rfl) (fun _ _ _ h => h) (Or.inl ⟨by rfl, fun W hSw => by obtain ⟨s0, s1, s2, s3, s4, s5⟩ := hSw; go_simp <;> omega⟩) hS ?_
              refine wpAnyH_ready (rs := [24]) (by kernel_rfl) (by simp) ?_
              refine AllReadyH.cons rfl (fun K hK => ?_) (AllReadyH.nil)
              go_simp
              go_at_call 46
              refine (unhide CW1 R1g W8 (unhide R18)).mono ?_
              rintro e W9 ⟨rfl, Bd⟩
              have T9 := hide ((unhide T8).later Bd)
              refine Shut.out hK _ _ (unhide T9).2.2 (fun hS => ?_)
              clear hK K
              clear Bd
              refine wpAnyH_take (i := 25) (v := .string (A0 ++ A1 ++ A2 ++ A3 ++ A4 ++ A5)) rfl (by kernel_rfl) (by kernel_rfl) (by kernel_rfl) (fun _ _ _ h => h) (Or.inl ⟨by rfl, fun W hSw => by obtain ⟨s0, s1, s2, s3, s4, s5⟩ := hSw; go_simp <;> omega⟩) hS ?_
              refine wpAnyH_ready (rs := [26]) (by kernel_rfl) (by simp) ?_
              refine AllReadyH.cons rfl (fun K hK => ?_) (AllReadyH.nil)
              go_simp
              refine Shut.out hK _ _ (unhide T9).2.2 (fun hS => ?_)
              clear hK K
              refine wpAnyH_done (by kernel_rfl) ?_ _
              generalize hAA : A0 ++ A1 ++ A2 ++ A3 ++ A4 ++ A5 = AA
              go_wp2
              go_ret
              exact ⟨by subst hAA; rfl, (unhide T9).1⟩
          · go_simp
            have Bd : Below W5.heap.size W5 (W5.alloc (.cells #[.int .i64 ((nm.size : Nat) : Int), .int .i64 0] 3)) := (Below.refl _ _).alloc (Nat.le_refl _) _
            have T6 := hide ((unhide T5).later Bd)
            have R16 : Hid (IRow (W5.alloc (.cells #[.int .i64 ((nm.size : Nat) : Int), .int .i64 0] 3)) (some ⟨W5.heap.size, 0, none⟩) (wordI [nm.size, 0])) := two_row _ _ _
            refine Shut.out hK _ _ (unhide T6).2.2 (fun hS => ?_)
            clear hK K
            obtain ⟨R1g, hR1g⟩ : ∃ x, W5.heap.size = x := ⟨_, rfl⟩
            obtain ⟨W6, hW6⟩ : ∃ x, W5.alloc (.cells #[.int .i64 ((nm.size : Nat) : Int), .int .i64 0] 3) = x := ⟨_, rfl⟩
            rw [hW6] at T6 hS
            rw [hR1g, hW6] at R16
            rw [hR1g, hW6]
            clear Bd
            refine wpAnyH_ready (rs := [14]) (by kernel_rfl) (by simp) ?_
            refine AllReadyH.cons rfl (fun K hK => ?_) (AllReadyH.nil)
            go_simp
            go_at_call 47
            refine (unhide CLA3 W6).mono ?_
            rintro e W7 ⟨rfl, Bd⟩
            have T7 := hide ((unhide T6).later Bd)
            have R17 := hide ((unhide R16).later Bd)
            refine Shut.out hK _ _ (unhide T7).2.2 (fun hS => ?_)
            clear hK K
            clear Bd
            refine wpAnyH_take (i := 15) (v := .string (A0 ++ A1 ++ A2 ++ A3)) rfl (by kernel_rfl) (by kernel_rfl) (by kernel_rfl) (fun _ _ _ h => h) (Or.inl ⟨by rfl, fun W hSw => by obtain ⟨s0, s1, s2, s3, s4, s5⟩ := hSw; go_simp <;> omega⟩) hS ?_
            refine wpAnyH_ready (rs := [18]) (by kernel_rfl) (by simp) ?_
            refine AllReadyH.cons rfl (fun K hK => ?_) (AllReadyH.nil)
            go_simp
            go_at_call 47
            refine (unhide CLA4 W7).mono ?_
            rintro e W8 ⟨rfl, Bd⟩
            have T8 := hide ((unhide T7).later Bd)
            have R18 := hide ((unhide R17).later Bd)
            refine Shut.out hK _ _ (unhide T8).2.2 (fun hS => ?_)
            clear hK K
            clear Bd
            refine wpAnyH_take (i := 19) (v := .string (A0 ++ A1 ++ A2 ++ A3 ++ A4)) rfl (by kernel_rfl) (by kernel_rfl) (by kernel_rfl) (fun _ _ _ h => h) (Or.inl ⟨by rfl, fun W hSw => by obtain ⟨s0, s1, s2, s3, s4, s5⟩ := hSw; go_simp <;> omega⟩) hS ?_
            refine wpAnyH_ready (rs := [24]) (by kernel_rfl) (by simp) ?_
            refine AllReadyH.cons rfl (fun K hK => ?_) (AllReadyH.nil)
            go_simp
            go_at_call 46
            refine (unhide CW1 R1g W8 (unhide R18)).mono ?_
            rintro e W9 ⟨rfl, Bd⟩
            have T9 := hide ((unhide T8).later Bd)
            refine Shut.out hK _ _ (unhide T9).2.2 (fun hS => ?_)
            clear hK K
            clear Bd
            refine wpAnyH_take (i := 25) (v := .string (A0 ++ A1 ++ A2 ++ A3 ++ A4 ++ A5)) rfl (by kernel_rfl) (by kernel_rfl) (by kernel_rfl) (fun _ _ _ h => h) (Or.inl ⟨by rfl, fun W hSw => by obtain ⟨s0, s1, s2, s3, s4, s5⟩ := hSw; go_simp <;> omega⟩) hS ?_
            refine wpAnyH_ready (rs := [26]) (by kernel_rfl) (by simp) ?_
            refine AllReadyH.cons rfl (fun K hK => ?_) (AllReadyH.nil)
            go_simp
            refine Shut.out hK _ _ (unhide T9).2.2 (fun hS => ?_)
            clear hK K
            refine wpAnyH_done (by kernel_rfl) ?_ _
            generalize hAA : A0 ++ A1 ++ A2 ++ A3 ++ A4 ++ A5 = AA
            go_wp2
            go_ret
            exact ⟨by subst hAA; rfl, (unhide T9).1⟩
        · go_simp
          have Bd : Below W4.heap.size W4 (W4.alloc (.cells #[.int .i64 ((nm.size : Nat) : Int), .int .i64 0] 3)) := (Below.refl _ _).alloc (Nat.le_refl _) _
          have T5 := hide ((unhide T4).later Bd)
          have R15 : Hid (IRow (W4.alloc (.cells #[.int .i64 ((nm.size : Nat) : Int), .int .i64 0] 3)) (some ⟨W4.heap.size, 0, none⟩) (wordI [nm.size, 0])) := two_row _ _ _
          refine Shut.out hK _ _ (unhide T5).2.2 (fun hS => ?_)
          clear hK K
          obtain ⟨R1g, hR1g⟩ : ∃ x, W4.heap.size = x := ⟨_, rfl⟩
          obtain ⟨W5, hW5⟩ : ∃ x, W4.alloc (.cells #[.int .i64 ((nm.size : Nat) : Int), .int .i64 0] 3) = x := ⟨_, rfl⟩
          rw [hW5] at T5 hS
          rw [hR1g, hW5] at R15
          rw [hR1g, hW5]
          clear Bd
          refine wpAnyH_ready (rs := [10]) (by kernel_rfl) (by simp) ?_
          refine AllReadyH.cons rfl (fun K hK => ?_) (AllReadyH.nil)
          go_simp
          go_at_call 47
          refine (unhide CLA2 W5).mono ?_
          rintro e W6 ⟨rfl, Bd⟩
          have T6 := hide ((unhide T5).later Bd)
          have R16 := hide ((unhide R15).later Bd)
          refine Shut.out hK _ _ (unhide T6).2.2 (fun hS => ?_)
          clear hK K
          clear Bd
          refine wpAnyH_take (i := 11) (v := .string (A0 ++ A1 ++ A2)) rfl (by kernel_rfl) (by kernel_rfl) (by kernel_rfl) (fun _ _ _ h => h) (Or.inl ⟨by rfl, fun W hSw => by obtain ⟨s0, s1, s2, s3, s4, s5⟩ := hSw; go_simp <;> omega⟩) hS ?_
          refine wpAnyH_ready (rs := [14]) (by kernel_rfl) (by simp) ?_
          refine AllReadyH.cons rfl (fun K hK => ?_) (AllReadyH.nil)
          go_simp
          go_at_call 47
          refine (unhide CLA3 W6).mono ?_
          rintro e W7 ⟨rfl, Bd⟩
          have T7 := hide ((unhide T6).later Bd)
          have R17 := hide ((unhide R16).later Bd)
          refine Shut.out hK _ _ (unhide T7).2.2 (fun hS => ?_)
          clear hK K
          clear Bd
          refine wpAnyH_take (i := 15) (v := .string (A0 ++ A1 ++ A2 ++ A3)) rfl (by kernel_rfl) (by kernel_rfl) (by kernel_rfl) (fun _ _ _ h => h) (Or.inl ⟨by rfl, fun W hSw => by obtain ⟨s0, s1, s2, s3, s4, s5⟩ := hSw; go_simp <;> omega⟩) hS ?_
          refine wpAnyH_ready (rs := [18]) (by kernel_rfl) (by simp) ?_
          refine AllReadyH.cons rfl (fun K hK => ?_) (AllReadyH.nil)
          go_simp
          go_at_call 47
          refine (unhide CLA4 W7).mono ?_
          rintro e W8 ⟨rfl, Bd⟩
          have T8 := hide ((unhide T7).later Bd)
          have R18 := hide ((unhide R17).later Bd)
          refine Shut.out hK _ _ (unhide T8).2.2 (fun hS => ?_)
          clear hK K
          clear Bd
          refine wpAnyH_take (i := 19) (v := .string (A0 ++ A1 ++ A2 ++ A3 ++ A4)) rfl (by kernel_rfl) (by kernel_rfl) (by kernel_rfl) (fun _ _ _ h => h) (Or.inl ⟨by rfl, fun W hSw => by obtain ⟨s0, s1, s2, s3, s4, s5⟩ := hSw; go_simp <;> omega⟩) hS ?_
          refine wpAnyH_ready (rs := [24]) (by kernel_rfl) (by simp) ?_
          refine AllReadyH.cons rfl (fun K hK => ?_) (AllReadyH.nil)
          go_simp
          go_at_call 46
          refine (unhide CW1 R1g W8 (unhide R18)).mono ?_
          rintro e W9 ⟨rfl, Bd⟩
          have T9 := hide ((unhide T8).later Bd)
          refine Shut.out hK _ _ (unhide T9).2.2 (fun hS => ?_)
          clear hK K
          clear Bd
          refine wpAnyH_take (i := 25) (v := .string (A0 ++ A1 ++ A2 ++ A3 ++ A4 ++ A5)) rfl (by kernel_rfl) (by kernel_rfl) (by kernel_rfl) (fun _ _ _ h => h) (Or.inl ⟨by rfl, fun W hSw => by obtain ⟨s0, s1, s2, s3, s4, s5⟩ := hSw; go_simp <;> omega⟩) hS ?_
          refine wpAnyH_ready (rs := [26]) (by kernel_rfl) (by simp) ?_
          refine AllReadyH.cons rfl (fun K hK => ?_) (AllReadyH.nil)
          go_simp
          refine Shut.out hK _ _ (unhide T9).2.2 (fun hS => ?_)
          clear hK K
          refine wpAnyH_done (by kernel_rfl) ?_ _
          generalize hAA : A0 ++ A1 ++ A2 ++ A3 ++ A4 ++ A5 = AA
          go_wp2
          go_ret
          exact ⟨by subst hAA; rfl, (unhide T9).1⟩
      · go_simp
        have Bd : Below W3.heap.size W3 (W3.alloc (.cells #[.int .i64 ((nm.size : Nat) : Int), .int .i64 0] 3)) := (Below.refl _ _).alloc (Nat.le_refl _) _
        have T4 := hide ((unhide T3).later Bd)
        have R14 : Hid (IRow (W3.alloc (.cells #[.int .i64 ((nm.size : Nat) : Int), .int .i64 0] 3)) (some ⟨W3.heap.size, 0, none⟩) (wordI [nm.size, 0])) := two_row _ _ _
        refine Shut.out hK _ _ (unhide T4).2.2 (fun hS => ?_)
        clear hK K
        obtain ⟨R1g, hR1g⟩ : ∃ x, W3.heap.size = x := ⟨_, rfl⟩
        obtain ⟨W4, hW4⟩ : ∃ x, W3.alloc (.cells #[.int .i64 ((nm.size : Nat) : Int), .int .i64 0] 3) = x := ⟨_, rfl⟩
        rw [hW4] at T4 hS
        rw [hR1g, hW4] at R14
        rw [hR1g, hW4]
        clear Bd
        refine wpAnyH_ready (rs := [6]) (by kernel_rfl) (by simp) ?_
        refine AllReadyH.cons rfl (fun K hK => ?_) (AllReadyH.nil)
        go_simp
        go_at_call 47
        refine (unhide CLA1 W4).mono ?_
        rintro e W5 ⟨rfl, Bd⟩
        have T5 := hide ((unhide T4).later Bd)
        have R15 := hide ((unhide R14).later Bd)
        refine Shut.out hK _ _ (unhide T5).2.2 (fun hS => ?_)
        clear hK K
        clear Bd
        refine wpAnyH_take (i := 7) (v := .string (A0 ++ A1)) rfl (by kernel_rfl) (by kernel_rfl) (by kernel_rfl) (fun _ _ _ h => h) (Or.inl ⟨by rfl, fun W hSw => by obtain ⟨s0, s1, s2, s3, s4, s5⟩ := hSw; go_simp <;> omega⟩) hS ?_
        refine wpAnyH_ready (rs := [10]) (by kernel_rfl) (by simp) ?_
        refine AllReadyH.cons rfl (fun K hK => ?_) (AllReadyH.nil)
        go_simp
        go_at_call 47
        refine (unhide CLA2 W5).mono ?_
        rintro e W6 ⟨rfl, Bd⟩
        have T6 := hide ((unhide T5).later Bd)
        have R16 := hide ((unhide R15).later Bd)
        refine Shut.out hK _ _ (unhide T6).2.2 (fun hS => ?_)
        clear hK K
        clear Bd
        refine wpAnyH_take (i := 11) (v := .string (A0 ++ A1 ++ A2)) rfl (by kernel_rfl) (by kernel_rfl) (by kernel_rfl) (fun _ _ _ h => h) (Or.inl ⟨by rfl, fun W hSw => by obtain ⟨s0, s1, s2, s3, s4, s5⟩ := hSw; go_simp <;> omega⟩) hS ?_
        refine wpAnyH_ready (rs := [14]) (by kernel_rfl) (by simp) ?_
        refine AllReadyH.cons rfl (fun K hK => ?_) (AllReadyH.nil)
        go_simp
        go_at_call 47
        refine (unhide CLA3 W6).mono ?_
        rintro e W7 ⟨rfl, Bd⟩
        have T7 := hide ((unhide T6).later Bd)
        have R17 := hide ((unhide R16).later Bd)
        refine Shut.out hK _ _ (unhide T7).2.2 (fun hS => ?_)
        clear hK K
        clear Bd
        refine wpAnyH_take (i := 15) (v := .string (A0 ++ A1 ++ A2 ++ A3)) rfl (by kernel_rfl) (by kernel_rfl) (by kernel_rfl) (fun _ _ _ h => h) (Or.inl ⟨by rfl, fun W hSw => by obtain ⟨s0, s1, s2, s3, s4, s5⟩ := hSw; go_simp <;> omega⟩) hS ?_
        refine wpAnyH_ready (rs := [18]) (by kernel_rfl) (by simp) ?_
        refine AllReadyH.cons rfl (fun K hK => ?_) (AllReadyH.nil)
        go_simp
        go_at_call 47
        refine (unhide CLA4 W7).mono ?_
        rintro e W8 ⟨rfl, Bd⟩
        have T8 := hide ((unhide T7).later Bd)
        have R18 := hide ((unhide R17).later Bd)
        refine Shut.out hK _ _ (unhide T8).2.2 (fun hS => ?_)
        clear hK K
        clear Bd
        refine wpAnyH_take (i := 19) (v := .string (A0 ++ A1 ++ A2 ++ A3 ++ A4)) rfl (by kernel_rfl) (by kernel_rfl) (by kernel_rfl) (fun _ _ _ h => h) (Or.inl ⟨by rfl, fun W hSw => by obtain ⟨s0, s1, s2, s3, s4, s5⟩ := hSw; go_simp <;> omega⟩) hS ?_
        refine wpAnyH_ready (rs := [24]) (by kernel_rfl) (by simp) ?_
        refine AllReadyH.cons rfl (fun K hK => ?_) (AllReadyH.nil)
        go_simp
        go_at_call 46
        refine (unhide CW1 R1g W8 (unhide R18)).mono ?_
        rintro e W9 ⟨rfl, Bd⟩
        have T9 := hide ((unhide T8).later Bd)
        refine Shut.out hK _ _ (unhide T9).2.2 (fun hS => ?_)
        clear hK K
        clear Bd
        refine wpAnyH_take (i := 25) (v := .string (A0 ++ A1 ++ A2 ++ A3 ++ A4 ++ A5)) rfl (by kernel_rfl) (by kernel_rfl) (by kernel_rfl) (fun _ _ _ h => h) (Or.inl ⟨by rfl, fun W hSw => by obtain ⟨s0, s1, s2, s3, s4, s5⟩ := hSw; go_simp <;> omega⟩) hS ?_
        refine wpAnyH_ready (rs := [26]) (by kernel_rfl) (by simp) ?_
        refine AllReadyH.cons rfl (fun K hK => ?_) (AllReadyH.nil)
        go_simp
        refine Shut.out hK _ _ (unhide T9).2.2 (fun hS => ?_)
        clear hK K
        refine wpAnyH_done (by kernel_rfl) ?_ _
        generalize hAA : A0 ++ A1 ++ A2 ++ A3 ++ A4 ++ A5 = AA
        go_wp2
        go_ret
        exact ⟨by subst hAA; rfl, (unhide T9).1⟩
    · go_simp
      have Bd : Below W2.heap.size W2 (W2.alloc (.cells #[.int .i64 ((nm.size : Nat) : Int), .int .i64 0] 3)) := (Below.refl _ _).alloc (Nat.le_refl _) _
      have T3 := hide ((unhide T2).later Bd)
      have R03 := hide ((unhide R02).later Bd)
      have R13 : Hid (IRow (W2.alloc (.cells #[.int .i64 ((nm.size : Nat) : Int), .int .i64 0] 3)) (some ⟨W2.heap.size, 0, none⟩) (wordI [nm.size, 0])) := two_row _ _ _
      refine Shut.out hK _ _ (unhide T3).2.2 (fun hS => ?_)
      clear hK K
      obtain ⟨R1g, hR1g⟩ : ∃ x, W2.heap.size = x := ⟨_, rfl⟩
      obtain ⟨W3, hW3⟩ : ∃ x, W2.alloc (.cells #[.int .i64 ((nm.size : Nat) : Int), .int .i64 0] 3) = x := ⟨_, rfl⟩
      rw [hW3] at T3 hS
      rw [hR1g, hW3] at R13
      rw [hW3] at R03
      rw [hR1g, hW3]
      clear Bd
      refine wpAnyH_ready (rs := [3]) (by kernel_rfl) (by simp) ?_
      refine AllReadyH.cons rfl (fun K hK => ?_) (AllReadyH.nil)
      go_simp
      go_at_call 46
      refine (unhide CW0 R0g W3 (unhide R03)).mono ?_
      rintro e W4 ⟨rfl, Bd⟩
      have T4 := hide ((unhide T3).later Bd)
      have R14 := hide ((unhide R13).later Bd)
      refine Shut.out hK _ _ (unhide T4).2.2 (fun hS => ?_)
      clear hK K
      clear Bd
      refine wpAnyH_ready (rs := [6]) (by kernel_rfl) (by simp) ?_
      refine AllReadyH.cons rfl (fun K hK => ?_) (AllReadyH.nil)
      go_simp
      go_at_call 47
      refine (unhide CLA1 W4).mono ?_
      rintro e W5 ⟨rfl, Bd⟩
      have T5 := hide ((unhide T4).later Bd)
      have R15 := hide ((unhide R14).later Bd)
      refine Shut.out hK _ _ (unhide T5).2.2 (fun hS => ?_)
      clear hK K
      clear Bd
      refine wpAnyH_take (i := 7) (v := .string (A0 ++ A1)) rfl (by kernel_rfl) (by kernel_rfl) (by kernel_rfl) (fun _ _ _ h => h) (Or.inl ⟨by rfl, fun W hSw => by obtain ⟨s0, s1, s2, s3, s4, s5⟩ := hSw; go_simp <;> omega⟩) hS ?_
      refine wpAnyH_ready (rs := [10]) (by kernel_rfl) (by simp) ?_
      refine AllReadyH.cons rfl (fun K hK => ?_) (AllReadyH.nil)
      go_simp
      go_at_call 47
      refine (unhide CLA2 W5).mono ?_
      rintro e W6 ⟨rfl, Bd⟩
      have T6 := hide ((unhide T5).later Bd)
      have R16 := hide ((unhide R15).later Bd)
      refine Shut.out hK _ _ (unhide T6).2.2 (fun hS => ?_)
      clear hK K
      clear Bd
      refine wpAnyH_take (i := 11) (v := .string (A0 ++ A1 ++ A2)) rfl (by kernel_rfl) (by kernel_rfl) (by kernel_rfl) (fun _ _ _ h => h) (Or.inl ⟨by rfl, fun W hSw => by obtain ⟨s0, s1, s2, s3, s4, s5⟩ := hSw; go_simp <;> omega⟩) hS ?_
      refine wpAnyH_ready (rs := [14]) (by kernel_rfl) (by simp) ?_
      refine AllReadyH.cons rfl (fun K hK => ?_) (AllReadyH.nil)
      go_simp
      go_at_call 47
      refine (unhide CLA3 W6).mono ?_
      rintro e W7 ⟨rfl, Bd⟩
      have T7 := hide ((unhide T6).later Bd)
      have R17 := hide ((unhide R16).later Bd)
      refine Shut.out hK _ _ (unhide T7).2.2 (fun hS => ?_)
      clear hK K
      clear Bd
      refine wpAnyH_take (i := 15) (v := .string (A0 ++ A1 ++ A2 ++ A3)) rfl (by kernel_rfl) (by kernel_rfl) (by kernel_rfl) (fun _ _ _ h => h) (Or.inl ⟨by rfl, fun W hSw => by obtain ⟨s0, s1, s2, s3, s4, s5⟩ := hSw; go_simp <;> omega⟩) hS ?_
      refine wpAnyH_ready (rs := [18]) (by kernel_rfl) (by simp) ?_
      refine AllReadyH.cons rfl (fun K hK => ?_) (AllReadyH.nil)
      go_simp
      go_at_call 47
      refine (unhide CLA4 W7).mono ?_
      rintro e W8 ⟨rfl, Bd⟩
      have T8 := hide ((unhide T7).later Bd)
      have R18 := hide ((unhide R17).later Bd)
      refine Shut.out hK _ _ (unhide T8).2.2 (fun hS => ?_)
      clear hK K
      clear Bd
      refine wpAnyH_take (i := 19) (v := .string (A0 ++ A1 ++ A2 ++ A3 ++ A4)) rfl (by kernel_rfl) (by kernel_rfl) (by kernel_rfl) (fun _ _ _ h => h) (Or.inl ⟨by rfl, fun W hSw => by obtain ⟨s0, s1, s2, s3, s4, s5⟩ := hSw; go_simp <;> omega⟩) hS ?_
      refine wpAnyH_ready (rs := [24]) (by kernel_rfl) (by simp) ?_
      refine AllReadyH.cons rfl (fun K hK => ?_) (AllReadyH.nil)
      go_simp
      go_at_call 46
      refine (unhide CW1 R1g W8 (unhide R18)).mono ?_
      rintro e W9 ⟨rfl, Bd⟩
      have T9 := hide ((unhide T8).later Bd)
      refine Shut.out hK _ _ (unhide T9).2.2 (fun hS => ?_)
      clear hK K
      clear Bd
      refine wpAnyH_take (i := 25) (v := .string (A0 ++ A1 ++ A2 ++ A3 ++ A4 ++ A5)) rfl (by kernel_rfl) (by kernel_rfl) (by kernel_rfl) (fun _ _ _ h => h) (Or.inl ⟨by rfl, fun W hSw => by obtain ⟨s0, s1, s2, s3, s4, s5⟩ := hSw; go_simp <;> omega⟩) hS ?_
      refine wpAnyH_ready (rs := [26]) (by kernel_rfl) (by simp) ?_
      refine AllReadyH.cons rfl (fun K hK => ?_) (AllReadyH.nil)
      go_simp
      refine Shut.out hK _ _ (unhide T9).2.2 (fun hS => ?_)
      clear hK K
      refine wpAnyH_done (by kernel_rfl) ?_ _
      generalize hAA : A0 ++ A1 ++ A2 ++ A3 ++ A4 ++ A5 = AA
      go_wp2
      go_ret
      exact ⟨by subst hAA; rfl, (unhide T9).1⟩
  · go_simp
    have Bd : Below W1.heap.size W1 (W1.alloc (.cells #[.int .i64 ((nm.size : Nat) : Int), .int .i64 0] 3)) := (Below.refl _ _).alloc (Nat.le_refl _) _
    have T2 := hide ((unhide T1).later Bd)
    have R12 : Hid (IRow (W1.alloc (.cells #[.int .i64 ((nm.size : Nat) : Int), .int .i64 0] 3)) (some ⟨W1.heap.size, 0, none⟩) (wordI [nm.size, 0])) := two_row _ _ _
    refine Shut.out hK _ _ (unhide T2).2.2 (fun hS => ?_)
    clear hK K
    obtain ⟨R1g, hR1g⟩ : ∃ x, W1.heap.size = x := ⟨_, rfl⟩
    obtain ⟨W2, hW2⟩ : ∃ x, W1.alloc (.cells #[.int .i64 ((nm.size : Nat) : Int), .int .i64 0] 3) = x := ⟨_, rfl⟩
    rw [hW2] at T2 hS
    rw [hR1g, hW2] at R12
    rw [hR1g, hW2]
    clear Bd
    refine wpAnyH_ready (rs := [2]) (by kernel_rfl) (by simp) ?_
    refine AllReadyH.cons rfl (fun K hK => ?_) (AllReadyH.nil)
    go_simp
    have Bd : Below W2.heap.size W2 (W2.alloc (.cells #[.int .i64 20, .int .i64 0, .int .i64 ((how : Nat) : Int)] 3)) := (Below.refl _ _).alloc (Nat.le_refl _) _
    have T3 := hide ((unhide T2).later Bd)
    have R13 := hide ((unhide R12).later Bd)
    have R03 : Hid (IRow (W2.alloc (.cells #[.int .i64 20, .int .i64 0, .int .i64 ((how : Nat) : Int)] 3)) (some ⟨W2.heap.size, 0, none⟩) (wordI [20, 0, how])) := three_row _ _ _ _
    refine Shut.out hK _ _ (unhide T3).2.2 (fun hS => ?_)
    clear hK K
    obtain ⟨R0g, hR0g⟩ : ∃ x, W2.heap.size = x := ⟨_, rfl⟩
    obtain ⟨W3, hW3⟩ : ∃ x, W2.alloc (.cells #[.int .i64 20, .int .i64 0, .int .i64 ((how : Nat) : Int)] 3) = x := ⟨_, rfl⟩
    rw [hW3] at T3 hS
    rw [hR0g, hW3] at R03
    rw [hW3] at R13
    rw [hR0g, hW3]
    clear Bd
    refine wpAnyH_ready (rs := [3]) (by kernel_rfl) (by simp) ?_
    refine AllReadyH.cons rfl (fun K hK => ?_) (AllReadyH.nil)
    go_simp
    go_at_call 46
    refine (unhide CW0 R0g W3 (unhide R03)).mono ?_
    rintro e W4 ⟨rfl, Bd⟩
    have T4 := hide ((unhide T3).later Bd)
    have R14 := hide ((unhide R13).later Bd)
    refine Shut.out hK _ _ (unhide T4).2.2 (fun hS => ?_)
    clear hK K
    clear Bd
    refine wpAnyH_ready (rs := [6]) (by kernel_rfl) (by simp) ?_
    refine AllReadyH.cons rfl (fun K hK => ?_) (AllReadyH.nil)
    go_simp
    go_at_call 47
    refine (unhide CLA1 W4).mono ?_
    rintro e W5 ⟨rfl, Bd⟩
    have T5 := hide ((unhide T4).later Bd)
    have R15 := hide ((unhide R14).later Bd)
    refine Shut.out hK _ _ (unhide T5).2.2 (fun hS => ?_)
    clear hK K
    clear Bd
    refine wpAnyH_take (i := 7) (v := .string (A0 ++ A1)) rfl (by kernel_rfl) (by kernel_rfl) (by kernel_rfl) (fun _ _ _ h => h) (Or.inl ⟨by rfl, fun W hSw => by obtain ⟨s0, s1, s2, s3, s4, s5⟩ := hSw; go_simp <;> omega⟩) hS ?_
    refine wpAnyH_ready (rs := [10]) (by kernel_rfl) (by simp) ?_
    refine AllReadyH.cons rfl (fun K hK => ?_) (AllReadyH.nil)
    go_simp
    go_at_call 47
    refine (unhide CLA2 W5).mono ?_
    rintro e W6 ⟨rfl, Bd⟩
    have T6 := hide ((unhide T5).later Bd)
    have R16 := hide ((unhide R15).later Bd)
    refine Shut.out hK _ _ (unhide T6).2.2 (fun hS => ?_)
    clear hK K
    clear Bd
    refine wpAnyH_take (i := 11) (v := .string (A0 ++ A1 ++ A2)) rfl (by kernel_rfl) (by kernel_rfl) (by kernel_rfl) (fun _ _ _ h => h) (Or.inl ⟨by rfl, fun W hSw => by obtain ⟨s0, s1, s2, s3, s4, s5⟩ := hSw; go_simp <;> omega⟩) hS ?_
    refine wpAnyH_ready (rs := [14]) (by kernel_rfl) (by simp) ?_
    refine AllReadyH.cons rfl (fun K hK => ?_) (AllReadyH.nil)
    go_simp
    go_at_call 47
    refine (unhide CLA3 W6).mono ?_
    rintro e W7 ⟨rfl, Bd⟩
    have T7 := hide ((unhide T6).later Bd)
    have R17 := hide ((unhide R16).later Bd)
    refine Shut.out hK _ _ (unhide T7).2.2 (fun hS => ?_)
    clear hK K
    clear Bd
    refine wpAnyH_take (i := 15) (v := .string (A0 ++ A1 ++ A2 ++ A3)) rfl (by kernel_rfl) (by kernel_rfl) (by kernel_rfl) (fun _ _ _ h => h) (Or.inl ⟨by rfl, fun W hSw => by obtain ⟨s0, s1, s2, s3, s4, s5⟩ := hSw; go_simp <;> omega⟩) hS ?_
    refine wpAnyH_ready (rs := [18]) (by kernel_rfl) (by simp) ?_
    refine AllReadyH.cons rfl (fun K hK => ?_) (AllReadyH.nil)
    go_simp
    go_at_call 47
    refine (unhide CLA4 W7).mono ?_
    rintro e W8 ⟨rfl, Bd⟩
    have T8 := hide ((unhide T7).later Bd)
    have R18 := hide ((unhide R17).later Bd)
    refine Shut.out hK _ _ (unhide T8).2.2 (fun hS => ?_)
    clear hK K
    clear Bd
    refine wpAnyH_take (i := 19) (v := .string (A0 ++ A1 ++ A2 ++ A3 ++ A4)) rfl (by kernel_rfl) (by kernel_rfl) (by kernel_rfl) (fun _ _ _ h => h) (Or.inl ⟨by rfl, fun W hSw => by obtain ⟨s0, s1, s2, s3, s4, s5⟩ := hSw; go_simp <;> omega⟩) hS ?_
    refine wpAnyH_ready (rs := [24]) (by kernel_rfl) (by simp) ?_
    refine AllReadyH.cons rfl (fun K hK => ?_) (AllReadyH.nil)
    go_simp
    go_at_call 46
    refine (unhide CW1 R1g W8 (unhide R18)).mono ?_
    rintro e W9 ⟨rfl, Bd⟩
    have T9 := hide ((unhide T8).later Bd)
    refine Shut.out hK _ _ (unhide T9).2.2 (fun hS => ?_)
    clear hK K
    clear Bd
    refine wpAnyH_take (i := 25) (v := .string (A0 ++ A1 ++ A2 ++ A3 ++ A4 ++ A5)) rfl (by kernel_rfl) (by kernel_rfl) (by kernel_rfl) (fun _ _ _ h => h) (Or.inl ⟨by rfl, fun W hSw => by obtain ⟨s0, s1, s2, s3, s4, s5⟩ := hSw; go_simp <;> omega⟩) hS ?_
    refine wpAnyH_ready (rs := [26]) (by kernel_rfl) (by simp) ?_
    refine AllReadyH.cons rfl (fun K hK => ?_) (AllReadyH.nil)
    go_simp
    refine Shut.out hK _ _ (unhide T9).2.2 (fun hS => ?_)
    clear hK K
    refine wpAnyH_done (by kernel_rfl) ?_ _
    generalize hAA : A0 ++ A1 ++ A2 ++ A3 ++ A4 ++ A5 = AA
    go_wp2
    go_ret
    exact ⟨by subst hAA; rfl, (unhide T9).1⟩
end Go.Proofs.YtgpghapnmalipaaGreatDoor
namespace Go.Proofs.YtgpghapnmalipaaGreatDoor
open Go.RowKit Corb
set_option maxRecDepth 100000
theorem strL_size (l : List UInt8) : (strL l).size = l.length := by simp [strL, ByteArray.size]
theorem toldB_size (how st crc pk lg n : Nat) : (toldB how st crc pk lg n).size = 26 := by
  unfold toldB
  rw [ByteArray.size_append, ByteArray.size_append, ByteArray.size_append, ByteArray.size_append, ByteArray.size_append]
  simp only [strL_size, List.flatMap_cons, List.flatMap_nil, List.length_append, leS_len, List.length_nil]
def headB (how st crc pk lg : Nat) (nm : ByteArray) : ByteArray := (⟨#[80, 75, 3, 4]⟩ : ByteArray) ++ toldB how st crc pk lg nm.size ++ nm
set_option maxHeartbeats 3200000 in
theorem head_any (how st crc pk lg : Nat) (nm bd : ByteArray) (w : World) (h0 : how < 65536) (h1 : st < 4294967296) (h2 : crc < 4294967296) (h3 : pk < 4294967296) (h4 : lg < 4294967296) (h5 : nm.size < 65536) :
    Calls Tryz.prog 44 #[.agg #[.int .i64 (how : Nat), .int .i64 (st : Nat), .int .i64 (crc : Nat), .int .i64 (pk : Nat), .int .i64 (lg : Nat), .string nm, .string bd]] w fun e w' => e = .returned (.string (headB how st crc pk lg nm)) ∧ Below w.heap.size w w' := by
  have HC := hide (fun W => told_any how st crc pk lg nm W h0 h1 h2 h3 h4 h5)
  have hmix : Tryz.prog.follows .mixedOrders = true := by kernel_rfl
  obtain ⟨A, hA⟩ : ∃ A, toldB how st crc pk lg nm.size = A := ⟨_, rfl⟩
  have hAz : (A.size : Int) ≤ 1000 := by
    rw [← hA, toldB_size]
    omega
  have hnI : (nm.size : Int) < 65536 := by omega
  have hB : headB how st crc pk lg nm = (⟨#[80, 75, 3, 4]⟩ : ByteArray) ++ A ++ nm := by unfold headB; rw [hA]
  rw [hA] at HC
  rw [hB]
  have T0' : Hid (TolS w how st crc pk lg nm (w.alloc (.cells #[.int .i64 (how : Nat), .int .i64 (st : Nat), .int .i64 (crc : Nat), .int .i64 (pk : Nat), .int .i64 (lg : Nat), .string nm, .string bd] 50))) := ⟨(Below.refl _ _).alloc (Nat.le_refl _) _, by simp, by simp, by simp, by simp, by simp, by simp, by simp⟩
  clear h0 h1 h2 h3 h4 h5 hA hB
  go_enter Tryz.func44, Tryz.ntmps44
  go_wp2_with fail
  obtain ⟨W0, hW0⟩ : ∃ x, w.alloc (.cells #[.int .i64 (how : Nat), .int .i64 (st : Nat), .int .i64 (crc : Nat), .int .i64 (pk : Nat), .int .i64 (lg : Nat), .string nm, .string bd] 50) = x := ⟨_, rfl⟩
  rw [hW0] at T0'
  rw [hW0]
  have T0 := T0'
  clear T0' hW0
  refine wp_region_held_drew (S := fun W => SixB W w.heap.size how st crc pk lg nm) hmix (unhide T0).2.2 (fun hS => ?_)
  refine wpAnyH_take (i := 0) (v := .pointer (some ⟨w.heap.size, 0, none⟩)) rfl (by kernel_rfl) (by kernel_rfl) (by kernel_rfl) (fun _ _ _ h => h) (Or.inl ⟨by rfl, fun W hSw => by obtain ⟨s0, s1, s2, s3, s4, s5⟩ := hSw; go_simp⟩) hS ?_
  refine wpAnyH_take (i := 1) (v := .agg #[.int .i64 (how : Nat), .int .i64 (st : Nat), .int .i64 (crc : Nat), .int .i64 (pk : Nat), .int .i64 (lg : Nat), .string nm]) rfl (by kernel_rfl) (by kernel_rfl) (by kernel_rfl) (fun _ _ _ h => h) (Or.inl ⟨by rfl, fun W hSw => by obtain ⟨s0, s1, s2, s3, s4, s5⟩ := hSw; go_simp⟩) hS ?_
  refine wpAnyH_take (i := 4) (v := .pointer (some ⟨w.heap.size, 0, none⟩)) rfl (by kernel_rfl) (by kernel_rfl) (by kernel_rfl) (fun _ _ _ h => h) (Or.inl ⟨by rfl, fun W hSw => by obtain ⟨s0, s1, s2, s3, s4, s5⟩ := hSw; go_simp⟩) hS ?_
  refine wpAnyH_take (i := 5) (v := .pointer (some ⟨w.heap.size, 5, none⟩)) rfl (by kernel_rfl) (by kernel_rfl) (by kernel_rfl) (fun _ _ _ h => h) (Or.inl ⟨by rfl, fun W hSw => by obtain ⟨s0, s1, s2, s3, s4, s5⟩ := hSw; go_simp⟩) hS ?_
  refine wpAnyH_take (i := 6) (v := .string nm) rfl (by kernel_rfl) (by kernel_rfl) (by kernel_rfl) (fun _ _ _ h => h) (Or.inl ⟨by rfl, fun W hSw => by obtain ⟨s0, s1, s2, s3, s4, s5⟩ := hSw; go_simp⟩) hS ?_
  have T1 : Hid (TolS w how st crc pk lg nm W0.drew) := ⟨(unhide T0).1.drew, (unhide T0).2.1, (unhide T0).2.2⟩
  generalize W0.drew = W1 at *
  refine wpAnyH_ready (rs := [2]) (by kernel_rfl) (by simp) ?_
  refine AllReadyH.cons rfl (fun K hK => ?_) AllReadyH.nil
  go_simp
  go_at_call 67
  refine (unhide HC W1).mono ?_
  rintro e W2 ⟨rfl, Bd⟩
  have T2 := hide ((unhide T1).later Bd)
  refine Shut.out hK _ _ (unhide T2).2.2 (fun hS => ?_)
  clear hK K Bd
  refine wpAnyH_take (i := 3) (v := .string ((⟨#[80, 75, 3, 4]⟩ : ByteArray) ++ A)) rfl (by kernel_rfl) (by kernel_rfl) (by kernel_rfl) (fun _ _ _ h => h) (Or.inl ⟨by rfl, fun W hSw => by obtain ⟨s0, s1, s2, s3, s4, s5⟩ := hSw; go_simp <;> omega⟩) hS ?_
  refine wpAnyH_take (i := 7) (v := .string ((⟨#[80, 75, 3, 4]⟩ : ByteArray) ++ A ++ nm)) rfl (by kernel_rfl) (by kernel_rfl) (by kernel_rfl) (fun _ _ _ h => h) (Or.inl ⟨by rfl, fun W hSw => by obtain ⟨s0, s1, s2, s3, s4, s5⟩ := hSw; go_simp <;> omega⟩) hS ?_
  refine wpAnyH_ready (rs := [8]) (by kernel_rfl) (by simp) ?_
  refine AllReadyH.cons rfl (fun K hK => ?_) AllReadyH.nil
  go_simp
  refine Shut.out hK _ _ (unhide T2).2.2 (fun hS => ?_)
  clear hK K
  refine wpAnyH_done (by kernel_rfl) ?_ _
  generalize hAA : (⟨#[80, 75, 3, 4]⟩ : ByteArray) ++ A ++ nm = AA
  go_wp2
  go_ret
  exact ⟨by subst hAA; rfl, (unhide T2).1⟩
theorem headB_size (how st crc pk lg : Nat) (nm : ByteArray) : (headB how st crc pk lg nm).size = 30 + nm.size := by
  unfold headB
  rw [ByteArray.size_append, ByteArray.size_append, toldB_size]
  have : (⟨#[80, 75, 3, 4]⟩ : ByteArray).size = 4 := rfl
  omega
set_option maxHeartbeats 3200000 in
theorem headPut_any (how st crc pk lg : Nat) (nm bd : ByteArray) (w : World) (h0 : how < 65536) (h1 : st < 4294967296) (h2 : crc < 4294967296) (h3 : pk < 4294967296) (h4 : lg < 4294967296) (h5 : nm.size < 65536) (h6 : bd.size ≤ 100000) :
    Calls Tryz.prog 31 #[.agg #[.int .i64 (how : Nat), .int .i64 (st : Nat), .int .i64 (crc : Nat), .int .i64 (pk : Nat), .int .i64 (lg : Nat), .string nm, .string bd]] w fun e w' => e = .returned (.string (headB how st crc pk lg nm ++ bd)) ∧ Below w.heap.size w w' := by
  have hmix : Tryz.prog.follows .mixedOrders = true := by kernel_rfl
  have HC := hide (fun W => head_any how st crc pk lg nm bd W h0 h1 h2 h3 h4 h5)
  have hAz : ((headB how st crc pk lg nm).size : Int) ≤ 70000 := by rw [headB_size]; omega
  have hbI : (bd.size : Int) ≤ 100000 := by omega
  generalize headB how st crc pk lg nm = A at *
  have T0' : Hid (TolS w how st crc pk lg nm (w.alloc (.cells #[.int .i64 (how : Nat), .int .i64 (st : Nat), .int .i64 (crc : Nat), .int .i64 (pk : Nat), .int .i64 (lg : Nat), .string nm, .string bd] 50)) ∧ (w.alloc (.cells #[.int .i64 (how : Nat), .int .i64 (st : Nat), .int .i64 (crc : Nat), .int .i64 (pk : Nat), .int .i64 (lg : Nat), .string nm, .string bd] 50)).cell? ⟨w.heap.size, 6, none⟩ = some (.string bd)) := ⟨⟨(Below.refl _ _).alloc (Nat.le_refl _) _, by simp, by simp, by simp, by simp, by simp, by simp, by simp⟩, by simp⟩
  clear h0 h1 h2 h3 h4 h5 h6
  go_enter Tryz.func31, Tryz.ntmps31
  go_wp2_with fail
  obtain ⟨W0, hW0⟩ : ∃ x, w.alloc (.cells #[.int .i64 (how : Nat), .int .i64 (st : Nat), .int .i64 (crc : Nat), .int .i64 (pk : Nat), .int .i64 (lg : Nat), .string nm, .string bd] 50) = x := ⟨_, rfl⟩
  rw [hW0] at T0'
  rw [hW0]
  have T0 := T0'
  clear T0' hW0
  refine wp_region_held_drew (S := fun W => SixB W w.heap.size how st crc pk lg nm ∧ W.cell? ⟨w.heap.size, 6, none⟩ = some (.string bd)) hmix ⟨(unhide T0).1.2.2, (unhide T0).2⟩ (fun hS => ?_)
  refine wpAnyH_take (i := 0) (v := .agg #[.int .i64 (how : Nat), .int .i64 (st : Nat), .int .i64 (crc : Nat), .int .i64 (pk : Nat), .int .i64 (lg : Nat), .string nm, .string bd]) rfl (by kernel_rfl) (by kernel_rfl) (by kernel_rfl) (fun _ _ _ h => h) (Or.inl ⟨by rfl, fun W hSw => by obtain ⟨⟨s0, s1, s2, s3, s4, s5⟩, s6⟩ := hSw; go_simp⟩) hS ?_
  refine wpAnyH_take (i := 2) (v := .pointer (some ⟨w.heap.size, 6, none⟩)) rfl (by kernel_rfl) (by kernel_rfl) (by kernel_rfl) (fun _ _ _ h => h) (Or.inl ⟨by rfl, fun W hSw => by obtain ⟨⟨s0, s1, s2, s3, s4, s5⟩, s6⟩ := hSw; go_simp⟩) hS ?_
  refine wpAnyH_take (i := 3) (v := .string bd) rfl (by kernel_rfl) (by kernel_rfl) (by kernel_rfl) (fun _ _ _ h => h) (Or.inl ⟨by rfl, fun W hSw => by obtain ⟨⟨s0, s1, s2, s3, s4, s5⟩, s6⟩ := hSw; go_simp⟩) hS ?_
  have T1 : Hid (TolS w how st crc pk lg nm W0.drew ∧ W0.drew.cell? ⟨w.heap.size, 6, none⟩ = some (.string bd)) := ⟨⟨(unhide T0).1.1.drew, (unhide T0).1.2.1, (unhide T0).1.2.2⟩, (unhide T0).2⟩
  generalize W0.drew = W1 at *
  refine wpAnyH_ready (rs := [1]) (by kernel_rfl) (by simp) ?_
  refine AllReadyH.cons rfl (fun K hK => ?_) AllReadyH.nil
  go_simp
  go_at_call 44
  refine (unhide HC W1).mono ?_
  rintro e W2 ⟨rfl, Bd⟩
  have T2 : Hid (TolS w how st crc pk lg nm W2 ∧ W2.cell? ⟨w.heap.size, 6, none⟩ = some (.string bd)) := ⟨(unhide T1).1.later Bd, by rw [Bd.cell (p := ⟨w.heap.size, 6, none⟩) (unhide T1).1.2.1]; exact (unhide T1).2⟩
  refine Shut.out hK _ _ ⟨(unhide T2).1.2.2, (unhide T2).2⟩ (fun hS => ?_)
  clear hK K Bd
  refine wpAnyH_take (i := 4) (v := .string (A ++ bd)) rfl (by kernel_rfl) (by kernel_rfl) (by kernel_rfl) (fun _ _ _ h => h) (Or.inl ⟨by rfl, fun W hSw => by obtain ⟨⟨s0, s1, s2, s3, s4, s5⟩, s6⟩ := hSw; go_simp <;> omega⟩) hS ?_
  refine wpAnyH_ready (rs := [5]) (by kernel_rfl) (by simp) ?_
  refine AllReadyH.cons rfl (fun K hK => ?_) AllReadyH.nil
  go_simp
  refine Shut.out hK _ _ ⟨(unhide T2).1.2.2, (unhide T2).2⟩ (fun hS => ?_)
  clear hK K
  refine wpAnyH_done (by kernel_rfl) ?_ _
  generalize hAA : A ++ bd = AA
  go_wp2
  go_ret
  exact ⟨by subst hAA; rfl, (unhide T2).1.1⟩
end Go.Proofs.YtgpghapnmalipaaGreatDoor
namespace Go.Proofs.YtgpghapnmalipaaGreatDoor
open Corb
theorem leS_valB (l : List UInt8) : leS l.length (valB l) = l := by
  apply List.ext_getElem
  · rw [leS_len]
  · intro j h1 h2
    have h := leS_get l.length (valB l) j h2
    rw [valB_get] at h
    rw [List.getD_eq_getElem?_getD, List.getElem?_eq_getElem h1, List.getD_eq_getElem?_getD, List.getElem?_eq_getElem h2] at h
    simpa using h
end Go.Proofs.YtgpghapnmalipaaGreatDoor
namespace Go.Proofs.YtgpghapnmalipaaGreatDoor
open Go.RowKit Corb
def bytesP (m : List UInt8) : List (Int × Int) := m.map fun b => ((b.toNat : Int), 8)
theorem bytesP_len (m : List UInt8) : (bytesP m).length = m.length := by simp [bytesP]
theorem bytesP_ok (m : List UInt8) : allOk (bytesP m) = true := by
  simp only [allOk, bytesP, List.all_map, List.all_eq_true]
  intro b _
  have := UInt8.toNat_lt b
  have h8 : p2 (8 : Int).toNat = 256 := by decide
  have h9 : pOk (b.toNat : Int) 8 = true := pOk_true.2 ⟨by omega, by omega, by rw [h8]; omega⟩
  exact h9
theorem bytesP_val (m : List UInt8) : valP (bytesP m) = (valB m, 8 * m.length) := by
  induction m with
  | nil => rfl
  | cons b m ih =>
    have e0 : bytesP (b :: m) = [((b.toNat : Int), (8 : Int))] ++ bytesP m := rfl
    have e : valP [((b.toNat : Int), (8 : Int))] = (b.toNat, 8) := by simp [valP, natP, putV]
    have e2 : valB (b :: m) = valB [b] + 2 ^ (8 * 1) * valB m := valB_append [b] m
    have e3 : valB [b] = b.toNat := by simp [valB]
    rw [e0, valP_append, ih, e, e2, e3]
    refine Prod.ext ?_ ?_
    · show b.toNat + valB m * 2 ^ 8 = b.toNat + 2 ^ (8 * 1) * valB m
      rw [Nat.mul_comm]
    · show 8 + 8 * m.length = 8 * (b :: m).length
      rw [List.length_cons]; omega
theorem bytesP_lOk (m : List UInt8) (h : m.length ≤ 4000) : lOk (bytesP m) = true := by
  simp only [lOk, Bool.and_eq_true, decide_eq_true_iff]
  exact ⟨bytesP_ok m, by rw [bytesP_len]; exact h⟩
theorem bytesP_put (m : List UInt8) (h : m.length ≤ 4000) : putS (bytesP m) = m := by
  rw [putS_yes (bytesP_lOk m h), textP, bytesP_val]
  show leS ((8 * m.length + 7) / 8) (valB m) = m
  rw [show (8 * m.length + 7) / 8 = m.length by omega]
  exact leS_valB m
def headP (n : Nat) : List (Int × Int) := [(1, 1), (0, 2), (0, 5), ((n : Int), 16), (((65535 - n : Nat) : Int), 16)]
def headV (n : Nat) : Nat := 1 + n * 256 + (65535 - n) * 16777216
theorem headP_ok (n : Nat) (h : n ≤ 65535) : lOk (headP n) = true := by
  have h16 : p2 (16 : Int).toNat = 65536 := by decide
  have h1 : p2 (1 : Int).toNat = 2 := by decide
  have h2 : p2 (2 : Int).toNat = 4 := by decide
  have h5 : p2 (5 : Int).toNat = 32 := by decide
  have a1 : pOk 1 1 = true := by decide
  have a2 : pOk 0 2 = true := by decide
  have a3 : pOk 0 5 = true := by decide
  have a4 : pOk (n : Int) 16 = true := pOk_true.2 ⟨by omega, by omega, by rw [h16]; omega⟩
  have a5 : pOk ((65535 - n : Nat) : Int) 16 = true := pOk_true.2 ⟨by omega, by omega, by rw [h16]; omega⟩
  simp only [lOk, allOk, headP, List.all_cons, List.all_nil, a1, a2, a3, a4, a5]
  simp
theorem headP_val (n : Nat) : valP (headP n) = (headV n, 40) := by
  simp [valP, natP, headP, putV, headV]
theorem headP_put (n : Nat) (h : n ≤ 65535) : putS (headP n) = leS 5 (headV n) := by
  rw [putS_yes (headP_ok n h), textP, headP_val]
  simp only [Nat.reduceAdd, Nat.reduceDiv]
theorem headP_whole (n : Nat) : (valP (headP n)).2 % 8 = 0 := by rw [headP_val]; simp only [Nat.reduceMod]
theorem store_put (L : List UInt8) (h : L.length ≤ 300) : putS (headP L.length ++ bytesP L) = leS 5 (headV L.length) ++ L := by
  rw [two_law (headP L.length) (bytesP L) (headP_ok _ (by omega)) (bytesP_lOk L (by omega)) (by rw [bytesP_len]; simp [headP]; omega) (headP_whole _), headP_put _ (by omega), bytesP_put L (by omega)]
def storeL (L : List UInt8) : List UInt8 := if L.length ≤ 300 then leS 5 (headV L.length) ++ L else []
theorem xor_half (n : Nat) (h : n ≤ 300) : n ^^^ 65535 = 65535 - n := by
  apply Nat.eq_of_testBit_eq
  intro i
  have e1 : (65535 : Nat) = 2 ^ 16 - 1 := rfl
  have e2 : 65535 - n = 2 ^ 16 - (n + 1) := by omega
  rw [e2, Nat.testBit_two_pow_sub_succ (by omega), Nat.testBit_xor, e1, Nat.testBit_two_pow_sub_one]
  by_cases hi : i < 16
  · simp [hi]
  · have : n.testBit i = false := Nat.testBit_lt_two_pow (Nat.lt_of_lt_of_le (show n < 2 ^ 16 by omega) (Nat.pow_le_pow_right (by omega) (by omega)))
    simp [hi, this]
end Go.Proofs.YtgpghapnmalipaaGreatDoor
namespace Go.Proofs.YtgpghapnmalipaaGreatDoor
open Go.RowKit Corb
def KB (b : Nat) (w w' : World) : Prop := Below b w w' ∧ Keep5 b w w'
theorem KB.refl (b : Nat) (w : World) : KB b w w := ⟨Below.refl _ _, Keep5.refl _ _⟩
theorem KB.trans {b : Nat} {w w1 w2 : World} (h : KB b w w1) (k : KB b w1 w2) : KB b w w2 := ⟨h.1.trans k.1, h.2.trans k.2⟩
theorem KB.drew {b : Nat} {w w' : World} (h : KB b w w') : KB b w w'.drew := ⟨h.1.drew, h.2.drew⟩
theorem KB.set {b : Nat} {w w' : World} (h : KB b w w') (o : Nat) (u : Value) : KB b w (w'.setCell ⟨b, o, none⟩ u) := ⟨below_set h.1 (Nat.le_refl _) u, h.2.set u⟩
theorem KB.below {b : Nat} {w w' w'' : World} (h : KB b w w') (hb : Below w'.heap.size w' w'') (hl : b ≤ w'.heap.size) : KB b w w'' :=
  ⟨h.1.trans (hb.mono hl), h.2.trans ⟨hb.size, fun k hk _ _ => hb.block k hk⟩⟩
theorem push_afterK {w W2 WA w' : World} {b : Nat} {v v' v1 v2 : Value} {l : List UInt8} {x : UInt8} (T2 : Three W2 b v v1 v2) (Y2 : Bys W2 b v l) (B2 : KB b w W2)
    (hWA : Below (b + 1) W2 WA) (hKA : Keep5 b W2 WA) (hYA : Bys WA b v l) (hown : w'.ownsRow (b + 1) 5 1 v' (l.length + 1) (bcells l ++ [.int .u8 (x.toNat : Int)])) (hgrow : WA.grownBy w' v.ownBlock) :
    (∃ g cap, v' = .slice (some ⟨g, 0, none⟩) (l.length + 1) cap) ∧ Three w' b v v1 v2 ∧ Bys w' b v' (l ++ [x]) ∧ KB b w w' := by
  obtain ⟨h1, h2, h3, h4⟩ := push_after T2 Y2 B2.1 hWA hown hgrow
  exact ⟨h1, h2, h3, h4, B2.2.trans (hKA.grown hYA hgrow)⟩
set_option maxHeartbeats 3200000 in
theorem put_anyK (b V m : Nat) (num bits : Int) (w : World) (h : Out w b V m) (n0 : 0 ≤ num) (n1 : num < 65536) (b0 : 0 ≤ bits) (b1 : bits ≤ 16) (hm : m ≤ 100000) :
    Calls Tryz.prog 117 #[.pointer (some ⟨b, 0, none⟩), .int .i64 num, .int .i64 bits] w fun e w' => e = .returned (.tuple #[]) ∧
      Out w' b (V + num.toNat % p2 bits.toNat * p2 m) (m + bits.toNat) ∧ KB b w w' := by
  obtain ⟨n, rfl⟩ := Int.eq_ofNat_of_zero_le n0
  obtain ⟨c, rfl⟩ := Int.eq_ofNat_of_zero_le b0
  rw [Int.toNat_natCast, Int.toNat_natCast]
  obtain ⟨i0, hi, hz0, hz1, hz2⟩ := info_parts Tryz.infoU8
  go_enter Tryz.func117, Tryz.ntmps117
  go_wp2
  go_loopw [1, 6] (fun x i wr => ∃ k : Nat, k ≤ c ∧ i = .int .i64 k ∧ x = .int .i64 (n / p2 k : Nat) ∧ Out wr b (V + n % p2 k * p2 m) (m + k) ∧ KB b w wr) (fun _ i _ => c - (intOf i).toNat)
  case atStart => exact ⟨0, Nat.zero_le _, rfl, by simp [p2], by simpa [p2, Nat.mod_one] using h, KB.refl _ _⟩
  case round =>
    obtain ⟨k, hk, rfl, rfl, hout, hbel⟩ := hrel
    by_cases hlt : k < c
    · have hval := hide (put_val V n k m)
      have hhalf := hide (half_pow n k)
      have hnk : n / p2 k ≤ n := Nat.div_le_self _ _
      obtain ⟨hV, v, htr, hby⟩ := hout
      obtain ⟨sa, scap, rfl⟩ := hby.form
      have hlb := last_bd (V + n % p2 k * p2 m) (m + k) hV
      generalize V + n % p2 k * p2 m = V1 at *
      generalize hm1 : m + k = m1 at *
      have hx : n / p2 k % 2 ≤ 1 := by omega
      have hxI : ((n / p2 k : Nat) : Int) % 2 = ((n / p2 k % 2 : Nat) : Int) := by omega
      have hnkI : ((n / p2 k : Nat) : Int) < 65536 := by omega
      have hp7 : p2 (m1 % 8) ≤ 128 := p2_le (m1 % 8) 7 (by omega)
      have hXle : n / p2 k % 2 * p2 (m1 % 8) ≤ 1 * p2 (m1 % 8) := Nat.mul_le_mul_right _ hx
      have hmul : ((n / p2 k % 2 : Nat) : Int) * ((p2 (m1 % 8) : Nat) : Int) = ((n / p2 k % 2 * p2 (m1 % 8) : Nat) : Int) := by simp
      have hroom := out_room V1 m1 (n / p2 k % 2) hV hx
      have hfull := out_full V1 m1 (n / p2 k % 2) hV hx
      have hr8 : m1 % 8 < 8 := Nat.mod_lt _ (by omega)
      have hm1le : m1 ≤ 100016 := by omega
      have hbl : (leS (m1 / 8) V1).length = m1 / 8 := leS_len _ _
      generalize n / p2 k = nk at *
      generalize hxx : nk % 2 = x at *
      generalize hLL : V1 / p2 (8 * (m1 / 8)) = L at *
      generalize hrr : m1 % 8 = r at *
      generalize hPP : p2 r = P at *
      generalize hXX : x * P = X at *
      have HPP := hide hPP
      have Hm1 := hide hm1
      have Hrr := hide hrr
      have Hroom := hide hroom
      have Hfull := hide hfull
      have Hx := hide hxx
      clear hm1 hLL hrr hPP hXX hV hroom hfull hxx hx hnk
      obtain ⟨k0, k1, k2, f0, f1, f2, hbw⟩ := htr
      have htr : Hid (Three wr b _ _ _) := ⟨k0, k1, k2, f0, f1, f2, hbw⟩
      have hrI : (r : Int) < 8 := by omega
      have hLI : (L : Int) < 128 := by omega
      have hXI : (X : Int) ≤ 128 := by omega
      have hkc : (k : Int) < (c : Int) := by omega
      have Hr8 := hide hr8
      have Hm1le := hide hm1le
      have Hk := hide hk
      have HLX : Hid (IntKind.i64.wrap ((L : Int) + IntKind.i64.wrap ((nk : Int).tmod 2 * (P : Int))) = (L : Int) + (X : Int)) := by
        show IntKind.i64.wrap ((L : Int) + IntKind.i64.wrap ((nk : Int).tmod 2 * (P : Int))) = (L : Int) + (X : Int)
        rw [Int.tmod_eq_emod_of_nonneg (by omega), hxI, hmul, wrap_id (X : Int) (by omega) (by omega), wrap_id ((L : Int) + (X : Int)) (by omega) (by omega)]
      clear hr8 hm1le hp7 hXle hlb hk hm
      go_wp2_with fail
      go_cut [] from 7 to 62 (fun wc => wc = (wr.setCell ⟨b, 1, none⟩ (.int .i64 ((L : Int) + (X : Int)))).drew)
      case first =>
        go_region_with (go_at_call 145; refine (l1Pow_any _ _ (by omega)).mono ?_; rintro e w' ⟨rfl, rfl⟩; rw [Int.toNat_natCast, unhide HPP])
        all_goals
          go_wp2_with fail
          go_meet
          exact by rw [unhide HLX]
      case rest =>
        have T1 := ((unhide htr).set1 (.int .i64 ((L : Int) + (X : Int)))).drew
        have Y1 := (hby.set (o := 1) (.int .i64 ((L : Int) + (X : Int)))).drew
        have B1 : KB b w _ := (hbel.set 1 (.int .i64 ((L : Int) + (X : Int)))).drew
        rw [← hcut] at T1 Y1 B1
        clear hcut hby hbel htr k0 k1 k2 f0 f1 f2 hbw hmul hxI
        have T1' := hide T1
        obtain ⟨k0, k1, k2, f0, f1, f2, hbw⟩ := T1
        by_cases hr7 : (r : Int) = 7
        · have hr7N : r = 7 := by omega
          obtain ⟨o1, o2, o3, o4⟩ := unhide Hfull hr7N
          have O1 := hide o1
          have O2 := hide o2
          have O3 := hide o3
          have O4 := hide o4
          have hLX : L + X < 256 := by omega
          have hbv := hide (byte_val (L + X) hLX)
          have hbI : IntKind.u8.wrap ((L : Int) + (X : Int)) = (L : Int) + (X : Int) := by
            rw [IntKind.wrap_u8']; omega
          subst hr7N
          clear o1 o2 o3 o4 hr7 hLX
          have T2 := (unhide T1').set2 (.int .i64 8)
          have Y2 := Y1.set (o := 2) (.int .i64 8)
          have B2 : KB b w _ := B1.set 2 (.int .i64 8)
          have hlen := hide hbl
          clear hbl
          go_wp2_with fail
          generalize wc.setCell ⟨b, 2, none⟩ (.int .i64 8) = W2 at *
          clear k0 k1 k2 f0 f1 f2 T1' Y1 B1
          have T2' := hide T2
          obtain ⟨k0, k1, k2, f0, f1, f2, hb2⟩ := T2
          have hbv' : Hid (((UInt8.ofNat (L + X)).toNat : Int) = (L : Int) + (X : Int)) := by
            show ((UInt8.ofNat (L + X)).toNat : Int) = (L : Int) + (X : Int)
            rw [unhide hbv]; omega
          have hl2 : (leS (m1 / 8) V1).length ≤ 20000 := by have := unhide hlen; have := unhide Hm1le; omega
          have Hl2 := hide hl2
          clear hl2
          go_cut [] from 7 to 62 (fun wc2 => ∃ v', Three wc2 b v' (.int .i64 ((L : Int) + (X : Int))) (.int .i64 8) ∧ Bys wc2 b v' (leS (m1 / 8) V1 ++ [UInt8.ofNat (L + X)]) ∧ KB b w wc2)
          case first =>
            go_region_law (refine step_append_own rfl (.tmp 47) (.tmp 53) 92 rfl (b + 1) 5 i0 (.int .u8 0) 1 1 Tryz.underlying92 hi hz0 hz1 hz2 rfl (by decide) _ _ _ (by simp [Act.eval]) (Y2.alloc _) ⟨W2.heap.size, 0, none⟩ 1 1 [.int .u8 ((L : Int) + (X : Int))] (by simp [Act.eval]) rfl (by intro j u hj; match j, hj with | 0, hj => simp at hj; subst hj; simp [Addr.add]) (by intro u hu; simp at hu; subst hu; rfl) (by have := unhide Hl2; unfold maxLen; omega) (by have := unhide Hl2; omega) (by simp; omega) ?_; intro v' w' hown hgrow hnil; clear hnil; rw [← unhide hbv'] at hown; obtain ⟨⟨g', cap', rfl⟩, T3, Y3, B3⟩ := push_afterK (unhide T2') Y2 B2 (by first | exact (Below.refl _ _).alloc (by omega) _ | exact ((Below.refl _ _).alloc (by omega) _).drew) (by first | exact (Keep5.refl _ _).alloc _ | exact ((Keep5.refl _ _).alloc _).drew) (by first | exact Y2.alloc _ | exact (Y2.alloc _).drew) hown hgrow; clear hown hgrow; have T3' := hide T3; obtain ⟨q0, q1, q2, e0, e1, e2, hb3⟩ := T3)
            all_goals
              go_wp2_with fail
              go_meet
              exact ⟨_, (unhide T3').set0 _, Y3.set _, B3.set _ _⟩
          case rest =>
            obtain ⟨v', T4, Y4, B4⟩ := hcut
            clear k0 k1 k2 f0 f1 f2 T2' Y2 B2 hb2
            obtain ⟨va, vc, rfl⟩ := Y4.form
            have T4' := hide T4
            obtain ⟨k0, k1, k2, f0, f1, f2, hb4⟩ := T4
            go_wp2
            go_roundw
            case rel =>
              refine ⟨k + 1, by have := unhide Hk; omega, by go_num, by rw [← unhide hhalf]; go_num, ?_, (B4.set _ _).set _ _⟩
              rw [unhide hval, show m + (k + 1) = m1 + 1 by have := unhide Hm1; omega]
              refine ⟨unhide O1, .slice va (leS (m1 / 8) V1 ++ [UInt8.ofNat (L + X)]).length vc, ?_, ?_⟩
              · rw [unhide O2, unhide O3]
                exact ((unhide T4').set1 _).set2 _
              · rw [unhide O4]
                exact (Y4.set _).set _
            case measure => simp [intOf]; omega
        · have hr8f : ((r : Int) + 1 == 8) = false := by simp; omega
          have hlt7 : r < 7 := by omega
          obtain ⟨o1, o2, o3⟩ := unhide Hroom hlt7
          have O1 := hide o1
          have O2 := hide o2
          have O3 := hide o3
          have hm18 : Hid ((m1 + 1) % 8 = r + 1) := by show (m1 + 1) % 8 = r + 1; have := unhide Hrr; omega
          clear o1 o2 o3 hlt7 hr7
          go_wp2
          go_roundw
          case rel =>
            refine ⟨k + 1, by have := unhide Hk; omega, by go_num, by rw [← unhide hhalf]; go_num, ?_, B1.set _ _⟩
            rw [unhide hval, show m + (k + 1) = m1 + 1 by have := unhide Hm1; omega]
            refine ⟨unhide O1, .slice sa (leS (m1 / 8) V1).length scap, ?_, ?_⟩
            · rw [unhide O2, unhide hm18]
              exact (unhide T1').set2 _
            · rw [unhide O3]
              exact Y1.set _
          case measure => simp [intOf]; omega
    · have hkc : k = c := by omega
      subst hkc
      go_wp2
      go_end0
      exact ⟨rfl, hout, hbel⟩
end Go.Proofs.YtgpghapnmalipaaGreatDoor
namespace Go.Proofs.YtgpghapnmalipaaGreatDoor
open Go.RowKit Corb
set_option maxHeartbeats 800000 in
theorem wholeOut_any (b V m : Nat) (w : World) (h : Out w b V m) (hm : m ≤ 90000) :
    Calls Tryz.prog 118 #[.pointer (some ⟨b, 0, none⟩)] w fun e w' => e = .returned (.tuple #[]) ∧ Out w' b V (8 * ((m + 7) / 8)) ∧ Below b w w' := by
  have h' := hide h
  obtain ⟨hV, v, ht, hy⟩ := h
  obtain ⟨k0, k1, k2, f0, f1, f2, hbw⟩ := ht
  by_cases hr : m % 8 = 0
  · have hr0 : ((m % 8 : Nat) : Int) = 0 := by omega
    have he : Hid (8 * ((m + 7) / 8) = m) := by show _ = _; omega
    clear hr hV hy k0 k1 hm
    go_enter Tryz.func118, Tryz.ntmps118
    go_wp2
    go_end0
    exact ⟨rfl, by rw [unhide he]; exact unhide h', Below.refl _ _⟩
  · have hr0 : (0 : Int) < ((m % 8 : Nat) : Int) := by omega
    have hr1 : ((m % 8 : Nat) : Int) < 8 := by omega
    have hfin : Hid (m + (8 - m % 8) = 8 * ((m + 7) / 8)) := by show _ = _; omega
    have htn : Hid ((8 - ((m % 8 : Nat) : Int)).toNat = 8 - m % 8) := by show (8 - ((m % 8 : Nat) : Int)).toNat = 8 - m % 8; omega
    have hm' := hide hm
    clear hr hV hy k0 k1 hm
    generalize ((m % 8 : Nat) : Int) = r at *
    go_enter Tryz.func118, Tryz.ntmps118
    go_wp2_with fail
    refine (put_any b V m 0 (8 - r) _ (unhide h') (by omega) (by omega) (by omega) (by omega) (by have := unhide hm'; omega)).mono ?_
    rintro e w1 ⟨rfl, ho, hb⟩
    rw [unhide htn] at ho
    simp only [Int.toNat_zero, Nat.zero_mod, Nat.zero_mul, Nat.add_zero] at ho
    rw [unhide hfin] at ho
    have HO := hide ho
    clear ho
    go_wp2
    go_end0
    exact ⟨rfl, unhide HO, hb⟩
theorem str_bytes (s : ByteArray) : s.data.toList.length = s.size := by simp
theorem cat_str (l : List UInt8) (s : ByteArray) : (⟨l.toArray⟩ : ByteArray) ++ s = ⟨(l ++ s.data.toList).toArray⟩ := by
  apply ByteArray.ext
  rw [ByteArray.data_append]
  apply Array.ext'
  simp
set_option maxHeartbeats 1600000 in
theorem l5Store_any (s : ByteArray) (w : World) (hs : s.size ≤ 300) :
    Calls Tryz.prog 86 #[.string s] w fun e w' => e = .returned (.string ⟨(leS 5 (headV s.size) ++ s.data.toList).toArray⟩) ∧ Below w.heap.size w w' := by
  have hsI : (s.size : Int) ≤ 300 := by omega
  have h0 := hide (out_new w 200)
  have hB0 : Hid (Below w.heap.size w (w.alloc (.cells #[.slice none 0 0, .int .i64 0, .int .i64 0] 200))) := (Below.refl _ _).alloc (Nat.le_refl _) _
  have HS := hide hs
  clear hs
  go_enter Tryz.func86, Tryz.ntmps86
  go_wp2_with fail
  refine (put_any _ 0 0 1 1 _ (unhide h0) (by omega) (by omega) (by omega) (by omega) (by omega)).mono ?_
  rintro e x1 ⟨rfl, h1, hb1⟩
  go_wp2_with fail
  refine (put_any _ _ _ 0 2 _ h1 (by omega) (by omega) (by omega) (by omega) (by omega)).mono ?_
  rintro e x2 ⟨rfl, h2, hb2⟩
  have h2' : Out x2 w.heap.size 1 3 := h2
  clear h1 h2
  go_wp2_with fail
  refine (wholeOut_any _ _ _ _ h2' (by omega)).mono ?_
  rintro e x3 ⟨rfl, h3, hb3⟩
  have h3' : Out x3 w.heap.size 1 8 := h3
  have hB3 := hide (((unhide hB0).trans hb1).trans (hb2.trans hb3))
  clear h2' h3 hb1 hb2 hb3
  go_wp2_with fail
  refine (put_any _ _ _ (s.size : Int) 16 _ h3' (by omega) (by omega) (by omega) (by omega) (by omega)).mono ?_
  rintro e x4 ⟨rfl, h4, hb4⟩
  clear h3'
  go_wp2_with fail
  refine (put_any _ _ _ (65535 - (s.size : Int)) 16 _ h4 (by omega) (by omega) (by omega) (by omega) (by omega)).mono ?_
  rintro e x5 ⟨rfl, h5, hb5⟩
  have hV : 1 + ((s.size : Int).toNat % p2 (16 : Int).toNat * p2 8) + ((65535 - (s.size : Int)).toNat % p2 (16 : Int).toNat * p2 (8 + (16 : Int).toNat)) = headV s.size := by
    have e16 : p2 (16 : Int).toNat = 65536 := by decide
    have e8 : p2 8 = 256 := by decide
    have e24 : p2 (8 + (16 : Int).toNat) = 16777216 := by decide
    rw [e16, e8, e24]
    unfold headV
    have := unhide HS
    rw [Int.toNat_natCast, show (65535 - (s.size : Int)).toNat = 65535 - s.size by omega, Nat.mod_eq_of_lt (by omega), Nat.mod_eq_of_lt (by omega)]
  have h5' : Out x5 w.heap.size (headV s.size) 40 := by rw [← hV]; exact h5
  obtain ⟨_, v, T, Y⟩ := h5'
  have hcv := conv_bytes Y
  have hB5 := hide ((unhide hB3).trans (hb4.trans hb5))
  obtain ⟨k0, k1, k2, f0, f1, f2, hbw⟩ := T
  have hle : leS (40 / 8) (headV s.size) = leS 5 (headV s.size) := rfl
  rw [hle] at hcv
  have HC := hide (cat_str (leS 5 (headV s.size)) s)
  clear h4 h5 hV hb4 hb5 Y k1 k2 hle
  have hPl := leS_len 5 (headV s.size)
  generalize hP : leS 5 (headV s.size) = P at hcv HC hPl
  have HP := hide hP
  have hPs : ¬ 9223372036854775807 < P.length + s.size := by have := unhide HS; omega
  clear hP hPl
  go_wp2
  go_ret
  exact ⟨by rw [unhide HP, ← unhide HC]; rfl, unhide hB5⟩
end Go.Proofs.YtgpghapnmalipaaGreatDoor
namespace Go.Proofs.YtgpghapnmalipaaGreatDoor
open Go.RowKit Corb
theorem flateHead_any (k : Int) (w : World) :
    Calls Tryz.prog 71 #[.int .i64 k] w fun e w' => e = .returned (.slice (some ⟨w.heap.size, 0, none⟩) 2 2) ∧ w' = w.alloc (.cells #[.int .i64 1, .int .i64 1, .int .i64 k, .int .i64 2] 112) := by
  go_enter Tryz.func71, Tryz.ntmps71
  go_wp2
  go_ret
  exact ⟨rfl, rfl⟩
theorem six_new (w : World) (a b c d e f : Value) (t : TypeId) (g : Nat) (hg : w.heap.size = g) : ∀ (j : Nat) (u : Value), [a, b, c, d, e, f][j]? = some u → (w.alloc (.cells #[a, b, c, d, e, f] t)).cell? ((⟨g, 0, none⟩ : Addr).add j) = some u := by
  subst hg
  intro j u hj
  match j, hj with
  | 0, hj => simp at hj; subst hj; simp [Addr.add]
  | 1, hj => simp at hj; subst hj; simp [Addr.add]
  | 2, hj => simp at hj; subst hj; simp [Addr.add]
  | 3, hj => simp at hj; subst hj; simp [Addr.add]
  | 4, hj => simp at hj; subst hj; simp [Addr.add]
  | 5, hj => simp at hj; subst hj; simp [Addr.add]
theorem six_int (a b c d e f : Int) : ∀ u ∈ [Value.int .i64 a, .int .i64 b, .int .i64 c, .int .i64 d, .int .i64 e, .int .i64 f], u.oneCell' = true := by
  intro u hu
  simp at hu
  rcases hu with rfl | rfl | rfl | rfl | rfl | rfl <;> rfl
theorem str_byte (s : ByteArray) (i : Nat) (h : i < s.size) : s.data.toList.take (i + 1) = s.data.toList.take i ++ [s[i]] := by
  have hl := str_bytes s
  rw [List.take_add_one, List.getElem?_eq_getElem (by omega)]
  simp
  rfl
theorem bytesP_snoc (m : List UInt8) (b : UInt8) : bytesP m ++ [((b.toNat : Int), (8 : Int))] = bytesP (m ++ [b]) := by simp [bytesP]
theorem conv_text (s : ByteArray) (w : World) : ∃ (c : Nat) (x : World) (cs : Array Value) (f : Nat × Nat), (convert 9 92 (.string s)).run Tryz.prog w = .ok (.slice (some ⟨w.heap.size, 0, none⟩) s.size c) x ∧ Below w.heap.size w x ∧ x.heap[w.heap.size]? = some (.cells cs 5 f) ∧ ∀ i (h : i < s.size), cs[i]? = some (.int .u8 (s[i].toNat : Int)) := by
  refine ⟨_, _, bytesRow s (grownCap w s.size 0 5), ((bytesRow s (grownCap w s.size 0 5)).size, (bytesRow s (grownCap w s.size 0 5)).size + 1), run_bytes_of_string w _ _ _ s Tryz.underlying9 Tryz.underlying92 Tryz.underlying5, ?_, ?_, ?_⟩
  · exact ((Below.refl _ w).drew).alloc (by simp) _
  · exact Array.getElem?_push_size
  · intro i h
    exact bytesRow_at s (grownCap w s.size 0 5) i h
theorem row_cell {w : World} {b i : Nat} {cs : Array Value} {t : TypeId} {f : Nat × Nat} {v : Value} (h : w.heap[b]? = some (.cells cs t f)) (hc : cs[i]? = some v) : w.cell? ⟨b, i, none⟩ = some v := by
  unfold World.cell?
  rw [h]
  exact hc
set_option maxHeartbeats 3200000 in
theorem implStore_any (s : ByteArray) (w : World) (hs : s.size ≤ 300) :
    Calls Tryz.prog 48 #[.string s] w fun e w' => e = .returned (.string ⟨(leS 5 (headV s.size) ++ s.data.toList).toArray⟩) ∧ Below w.heap.size w w' := by
  obtain ⟨i0, hi, hz0, hz1, hz2⟩ := info_parts Tryz.infoPiece
  have hsI : (s.size : Int) ≤ 300 := by omega
  have hI : ¬ (300 : Int) < (s.size : Int) := by omega
  obtain ⟨N, hN⟩ : ∃ N : Nat, 65535 - s.size = N := ⟨_, rfl⟩
  have hx : bits .xor .i64 (s.size : Int) 65535 = (N : Int) := by
    have := i64_xor_nat s.size 65535 (by omega) (by omega)
    rw [xor_half s.size hs, hN] at this
    exact this
  have HH : Hid (headP s.size = [(1, 1), (0, 2)] ++ [(0, 5), ((s.size : Int), 16), ((N : Int), 16)]) := by show _ = _; unfold headP; rw [hN]; rfl
  have hP0 : Hid ((w.alloc (.cells #[.int .i64 1, .int .i64 1, .int .i64 0, .int .i64 2] 112)).ownsRow w.heap.size 112 2 (.slice (some ⟨w.heap.size, 0, none⟩) 2 2) 2 [.int .i64 1, .int .i64 1, .int .i64 0, .int .i64 2]) := World.ownsRow_lit w #[.int .i64 1, .int .i64 1, .int .i64 0, .int .i64 2] 2 (Nat.le_refl _) (by unfold maxLen; omega) rfl
  have hB0 : Hid (Below w.heap.size w (w.alloc (.cells #[.int .i64 1, .int .i64 1, .int .i64 0, .int .i64 2] 112))) := (Below.refl _ _).alloc (Nat.le_refl _) _
  have hput := hide (store_put s.data.toList (by rw [str_bytes]; exact hs))
  have hL := hide (str_bytes s)
  have HS := hide hs
  have bd : Hid (2 + 3 ≤ maxLen ∧ (2 + 3) * 16 ≤ 140737488355328) := by show _ ∧ _; unfold maxLen; omega
  clear hs hN
  go_enter Tryz.func48, Tryz.ntmps48
  go_wp2_with fail
  refine (flateHead_any 0 w).mono ?_
  rintro e x1 ⟨rfl, hx1⟩
  have h1P := hide (show x1.ownsRow w.heap.size 112 2 (.slice (some ⟨w.heap.size, 0, none⟩) 2 2) 2 [.int .i64 1, .int .i64 1, .int .i64 0, .int .i64 2] by rw [hx1]; exact unhide hP0)
  have h1B := hide (show Below w.heap.size w x1 by rw [hx1]; exact unhide hB0)
  have hbs1 := (unhide h1B).size
  clear hx1
  go_wp2_with (at_builtin; refine wpList_append_own _ rfl _ _ 109 rfl w.heap.size 112 i0 (.agg #[.int .i64 0, .int .i64 0]) 2 16 Tryz.underlying109 hi hz0 hz1 hz2 rfl (by decide) (.slice (some ⟨w.heap.size, 0, none⟩) 2 2) _ _ rfl (World.ownsRow.alloc (unhide h1P) _) ⟨x1.heap.size, 0, none⟩ 3 3 [.int .i64 0, .int .i64 5, .int .i64 (s.size : Nat), .int .i64 16, .int .i64 (N : Nat), .int .i64 16] rfl rfl (six_new _ _ _ _ _ _ _ _ _ rfl) (six_int _ _ _ _ _ _) (unhide bd).1 (unhide bd).2 (size_alloc_le hbs1 _) ?_; intro v' x2 hown hgrow hnil; clear hnil; obtain ⟨c3, x3, cs, fz, hcv, hb3, hh3, hc3⟩ := conv_text s x2)
  have hb2 : Below w.heap.size w x2 := grown_step (v := .slice (some ⟨w.heap.size, 0, none⟩) 2 2) hgrow (unhide h1P) (Nat.le_refl _) hbs1 (unhide h1B)
  have hq2 : Pcs x2 w.heap.size v' (headP s.size) := by rw [unhide HH]; exact hown
  have hq3 := hide (hq2.later hb3 (Nat.le_refl _))
  have hB3 := hide (bnext hb2 hb3)
  have hC3 : Hid (∀ W, KeepT 5 x3 W → ∀ i (hi : i < s.size), W.cell? ⟨x2.heap.size, i, none⟩ = some (.int .u8 (s[i].toNat : Int))) := fun W h i hi => row_cell (h _ _ _ hh3) (hc3 i hi)
  generalize x2.heap.size = G at *
  obtain ⟨va, vc, rfl⟩ := (unhide hq3).form
  have hhl : Hid ((headP s.size).length = 5) := rfl
  clear hown hgrow hb2 hq2 hcv hb3 hc3 hh3
  go_loopw [4, 6, 23] (fun v _ i wr => ∃ k : Nat, k ≤ s.size ∧ i = .int .i64 k ∧ Pcs wr w.heap.size v (headP s.size ++ bytesP (s.data.toList.take k)) ∧ KeepT 5 x3 wr ∧ Below w.heap.size w wr) (fun _ _ i _ => s.size - (intOf i).toNat)
  case atStart => exact ⟨0, Nat.zero_le _, rfl, by simpa [bytesP] using unhide hq3, KeepT.refl _ _, unhide hB3⟩
  case round =>
    obtain ⟨k, hk, rfl, hq, hkt, hbel⟩ := hrel
    have hlen : Hid ((headP s.size ++ bytesP (s.data.toList.take k)).length = 5 + k) := by
      show _ = _
      rw [List.length_append, unhide hhl, bytesP_len, List.length_take, unhide hL]
      omega
    obtain ⟨ra, rc, rfl⟩ := hq.formN (unhide hlen)
    by_cases hlt : k < s.size
    · have hltI : (k : Int) < (s.size : Int) := by omega
      have hcell := unhide hC3 wr hkt k hlt
      have hx256 : (s[k].toNat : Int) < 256 := by have := UInt8.toNat_lt s[k]; omega
      have hst : Hid (headP s.size ++ bytesP (s.data.toList.take k) ++ [((s[k].toNat : Int), (8 : Int))] = headP s.size ++ bytesP (s.data.toList.take (k + 1))) := by show _ = _; rw [List.append_assoc, bytesP_snoc, str_byte s k hlt]
      have bdk : Hid (5 + k + 1 ≤ maxLen ∧ (5 + k + 1) * 16 ≤ 140737488355328) := by show _ ∧ _; unfold maxLen; omega
      have hqo := hide (hq.own (unhide hlen))
      have hbs := hbel.size
      have HBel := hide (And.intro hbel hkt)
      clear hq hbel hkt
      go_wp2_with (at_builtin; refine wpList_append_own _ rfl _ _ 109 rfl w.heap.size 112 i0 (.agg #[.int .i64 0, .int .i64 0]) 2 16 Tryz.underlying109 hi hz0 hz1 hz2 rfl (by decide) (.slice ra (5 + k) rc) _ _ rfl (World.ownsRow.alloc (unhide hqo) _) ⟨wr.heap.size, 0, none⟩ 1 1 [.int .i64 (s[k].toNat : Int), .int .i64 8] rfl rfl (two_new _ _ _ _) (two_int _ _) (unhide bdk).1 (unhide bdk).2 (size_alloc_le hbs _) ?_; intro v' y2 hown hgrow hnil; clear hnil)
      have hb2 := grown_step (v := .slice ra (5 + k) rc) hgrow (unhide hqo) (Nat.le_refl _) hbs (unhide HBel).1
      have hq2 := pcs_snocN (unhide hlen) hown
      rw [unhide hst] at hq2
      have hkt2 := ((unhide HBel).2.alloc (.cells #[.int .i64 (s[k].toNat : Int), .int .i64 8] 112)).grown (World.ownsRow.alloc (unhide hqo) _) (by decide) hgrow
      clear hown hgrow
      go_wp2
      go_roundw
      case rel => exact ⟨k + 1, by omega, by go_num, hq2, hkt2, hb2⟩
      case measure => simp [intOf]; omega
    · obtain rfl : k = s.size := by omega
      have hall : Hid (s.data.toList.take s.size = s.data.toList) := List.take_of_length_le (by rw [unhide hL]; exact Nat.le_refl _)
      rw [unhide hall] at hq hlen
      have hp2 : Hid (putS (headP s.size ++ bytesP s.data.toList) = leS 5 (headV s.size) ++ s.data.toList) := by have := unhide hput; rw [unhide hL] at this; exact this
      have HP := hide (implBitsPut_any ra rc (headP s.size ++ bytesP s.data.toList) wr (hq.rowN (unhide hlen)) (by rw [unhide hlen]; omega))
      rw [unhide hlen, unhide hp2] at HP
      clear hq hk hlt hkt
      go_wp2_with fail
      refine (unhide HP).mono ?_
      rintro e y1 ⟨rfl, hy⟩
      go_wp2
      go_ret
      exact ⟨rfl, bnext hbel hy⟩
theorem implStorePut_any (s : ByteArray) (w : World) (hs : s.size ≤ 1048576) :
    Calls Tryz.prog 48 #[.string s] w fun e w' => e = .returned (.string ⟨(storeL s.data.toList).toArray⟩) ∧ Below w.heap.size w w' := by
  have hsI : (s.size : Int) ≤ 1048576 := by omega
  by_cases h3 : s.size ≤ 300
  · have e : storeL s.data.toList = leS 5 (headV s.size) ++ s.data.toList := by unfold storeL; rw [str_bytes, if_pos h3]
    rw [e]
    exact implStore_any s w h3
  · have hI : (300 : Int) < (s.size : Int) := by omega
    have e : storeL s.data.toList = [] := by unfold storeL; rw [str_bytes, if_neg h3]
    rw [e]
    clear hs h3 e
    go_enter Tryz.func48, Tryz.ntmps48
    go_wp2
    go_ret
    exact ⟨rfl, Below.refl _ _⟩
end Go.Proofs.YtgpghapnmalipaaGreatDoor
