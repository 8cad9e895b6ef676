/- The contract of the model's BitsPut, whole, over this seat's program. -/
import Derived.Test.YtnomiopdpmecbaaPo3
namespace Go.Proofs.Ytnomiopdpmecbaa
open Go.RowKit Corb

theorem ret_str {a b : List UInt8} (h : a = b) : Ending.returned (.string ⟨a.toArray⟩) = .returned (.string ⟨b.toArray⟩) := by rw [h]

theorem conv_bytes {w : World} {b : Nat} {v : Value} {l : List UInt8} (h : Bys w b v l) :
    (convert 22 9 v).run Try.prog w = .ok (.string ⟨l.toArray⟩) w := by
  rcases h.2 with ⟨e, h0⟩ | ⟨g, cap, _, e, _⟩
  · subst e
    have hl : l = [] := List.eq_nil_of_length_eq_zero h0
    subst hl
    rw [run_convert_bytes_string w _ _ _ none 0 0 Try.underlying22 Try.underlying5 Try.underlying9]
    rfl
  · subst e
    exact run_convert_bytes_back w _ _ _ ⟨g, 0, none⟩ cap l Try.underlying22 Try.underlying5 Try.underlying9 (fun j hj => by
      have := h.cells (g := g) rfl j (.int .u8 (l[j].toNat : Int)) (by simp [bcells, hj])
      exact this)

theorem PRow.below {w w' : World} {a : Option Addr} {l : List (Int × Int)} {B : Nat} (h : PRow w a l) (hB : w.heap.size ≤ B) (hb : Below B w w') : PRow w' a l := h.later (hb.mono hB)

set_option maxHeartbeats 1600000 in
theorem specBitsPut_any (a : Option Addr) (cap : Nat) (l : List (Int × Int)) (w : World) (h : PRow w a l) (hm : l.length ≤ 1000000000) :
    Calls Try.prog 32 #[.slice a l.length cap] w fun e w' => e = .returned (.string ⟨(putS l).toArray⟩) ∧ Below w.heap.size w w' := by
  have hm' : (l.length : Int) ≤ 1000000000 := by omega
  cases hok : lOk l
  · have HI := hide (putS_no hok)
    have hok' : (allOk l && decide (l.length ≤ 4000)) = false := hok
    go_enter Try.func32, Try.ntmps32
    go_wp2_with (go_at_call 45; refine (l1Pieces_any _ _ _ _ h hm).mono ?_; rintro e w1 ⟨rfl, hb1⟩; rw [hok'])
    go_ret
    exact ⟨ret_str (a := []) (unhide HI).symm, hb1⟩
  · have HI := hide (putS_yes hok)
    have hok' : (allOk l && decide (l.length ≤ 4000)) = true := hok
    simp only [lOk, Bool.and_eq_true, decide_eq_true_iff] at hok
    obtain ⟨hall, h4⟩ := hok
    have hall' := hide hall
    have H4 := hide h4
    have h4' : (l.length : Int) ≤ 4000 := by omega
    clear hall h4
    go_enter Try.func32, Try.ntmps32
    go_wp2_with fail
    refine (l1Pieces_any _ _ _ _ h hm).mono ?_
    rintro e w1 ⟨rfl, hb1⟩
    rw [hok']
    clear hok'
    have h1 := h.later hb1
    have hout0 := out_new w1 84
    clear h
    have hb1s := hb1.size
    go_wp2_with fail
    go_loopw [4] (fun i wr => ∃ k : Nat, k ≤ l.length ∧ i = .int .i64 k ∧ Out wr w1.heap.size (valP (l.take k)).1 (valP (l.take k)).2 ∧ Below w1.heap.size w1 wr) (fun i _ => l.length - (intOf i).toNat)
    case atStart => exact ⟨0, Nat.zero_le _, rfl, hout0, (Below.refl _ _).alloc (Nat.le_refl _) _⟩
    case round =>
      obtain ⟨k, hk, rfl, hout, hbel⟩ := hrel
      have hmb := valP_bits (l.take k) (allOk_take_true (unhide hall') k)
      obtain ⟨s0, s1⟩ := sum_bd (allOk_take_true (unhide hall') k)
      have s2 : ((l.take k).length : Int) ≤ 4000 := by simp; omega
      have hml : Hid ((valP (l.take k)).2 ≤ 64000) := by show (valP (l.take k)).2 ≤ 64000; omega
      clear hmb s0 s1 s2 hout0
      by_cases hlt : k < l.length
      · obtain ⟨g, o, rfl, hg, hc⟩ := (h1.later hbel) (by omega)
        obtain ⟨c0, c1⟩ := hc k hlt
        obtain ⟨⟨y0, y1⟩, x0, x1⟩ := pOk_true.1 (allOk_get (unhide hall') k hlt)
        have hq := (pow_bd _ y1).2
        have hx2 : (l.getD k (0, 0)).1 < 65536 := by omega
        have hmod : Hid ((l.getD k (0, 0)).1.toNat % p2 (l.getD k (0, 0)).2.toNat = (l.getD k (0, 0)).1.toNat) := Nat.mod_eq_of_lt (by omega)
        have hstep := hide (valP_take l k hlt)
        have HK := hide hk
        clear hc h1 x1 hq hk
        generalize (l.getD k (0, 0)).1 = x at *
        generalize (l.getD k (0, 0)).2 = y at *
        generalize valP (l.take k) = S at *
        go_wp2_with fail
        go_region_with (go_at_call 46; refine (put_any w1.heap.size _ _ _ _ _ (by exact hout) x0 hx2 y0 y1 (by have := unhide hml; omega)).mono ?_; rintro e w' ⟨rfl, hout', hbel'⟩)
        all_goals
          go_wp2
          go_roundw
          case rel =>
            rw [unhide hmod] at hout'
            exact ⟨k + 1, by have := unhide HK; omega, by go_num, by rw [unhide hstep]; exact hout', hbel.drew.trans hbel'⟩
          case measure => simp [intOf]; omega
      · have hlk : Hid (l.take k = l) := List.take_of_length_le (by omega)
        clear h1
        go_wp2_with fail
        refine (whole_any w1.heap.size _ _ _ hout (by have := unhide hml; omega)).mono ?_
        rintro e w2 ⟨rfl, ⟨v, x, y, T, Y⟩, hb2⟩
        rw [unhide hlk] at Y
        have hconv := conv_bytes Y
        obtain ⟨va, vc, rfl⟩ := Y.form
        obtain ⟨k0, k1, k2, f0, f1, f2, hb3⟩ := T
        clear k1 k2 hout Y
        generalize hres : (leS (((valP l).2 + 7) / 8) (valP l).1) = res at *
        have HR : Hid (res = putS l) := by have h := unhide HI; rw [h, ← hres]; exact rfl
        clear hres
        go_wp2
        go_ret
        exact ⟨ret_str (unhide HR), bnext hb1 (hbel.trans hb2)⟩

end Go.Proofs.Ytnomiopdpmecbaa
