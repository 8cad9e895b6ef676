/- The program's lengths by counts are the model's: the whole. -/
import Derived.Test.YtkkhaleiehnihaaHo1
namespace Go.Proofs.Ytkkhaleiehnihaa
open Go.RowKit Corb

set_option maxHeartbeats 3200000 in
theorem implLensOf_yes (a : Option Addr) (cap n mm : Nat) (l : List Int) (w : World) (hn : l.length = n) (h : IRow w a l) (hm : n ≤ 300) (hc : inC l = true) (hmm : mm ≤ 14) (hu1 : 1 ≤ us l) (hu2 : us l ≤ p2 mm) :
    Calls Try.prog 11 #[.slice a n cap, .int .i64 ((mm : Int) + 1)] w fun e w' => (∃ v, e = .returned v ∧ IOwn w' w.heap.size v (fitL ((mm : Int) + 1) l)) ∧ Below w.heap.size w w' := by
  have hcu := us_le l
  have HU := hide (countsUsed_any a cap n l w hn h (by omega))
  rw [usedI_yes (by omega) hc] at HU
  have hUI : (us l : Int) ≤ 300 := by omega
  have h1I : (1 : Int) ≤ (us l : Int) := by omega
  have hU2 : (us l : Int) ≤ (p2 mm : Int) := by omega
  have hp2 : (1 : Int) * 2 ^ mm = (p2 mm : Int) := by rw [Int.one_mul, p2_int]
  have hp2' : (2 : Int) ^ mm = (p2 mm : Int) := (p2_int mm).symm
  have hmI : (mm : Int) ≤ 14 := by omega
  have hpl : p2 mm ≤ 16384 := by
    have h1 : p2 mm ≤ p2 14 := Nat.pow_le_pow_right (by omega) (by omega)
    have h2 : p2 14 = 16384 := rfl
    omega
  have hw2 : IntKind.i64.wrap (p2 mm : Int) = (p2 mm : Int) := wrap_id _ (by omega) (by omega)
  have hok := okC_of hc
  by_cases hone : us l = 1
  · have HE := hide (eachOne_any a cap n l w hn h (by omega) hok)
    have hfit : Hid (fitL ((mm : Int) + 1) l = l.map oneI) := fit_one (by omega) hok (by rw [seed_usL]; exact hone)
    rw [hone] at hU2 HU
    have Hn := hide hn
    clear hn h hm hc hmm hu1 hu2 hcu hUI h1I hone hok hpl
    generalize p2 mm = PW at *
    go_enter Try.func11, Try.ntmps11
    go_wp2_with fail
    refine (unhide HU).mono ?_
    rintro e x1 ⟨rfl, hx1⟩
    rw [hx1]
    clear hx1 x1
    go_wp2_with fail
    refine (unhide HE).mono ?_
    rintro e x2 ⟨v, rfl, ho, hb⟩
    obtain ⟨va, vc, rfl⟩ := ho.formN (n := n) (by rw [List.length_map, unhide Hn])
    go_wp2
    go_ret
    exact ⟨⟨_, rfl, by rw [unhide hfit]; exact ho⟩, hb⟩
  · have hneI : ((us l : Int) == 1) = false := by simp; omega
    have hs2 : 1 < (seed l l.length).length := by rw [seed_usL]; omega
    have HN := hide (And.intro hn (And.intro hm (And.intro hok (show (seed l l.length).length ≤ p2 mm by rw [seed_usL]; exact hu2))))
    have hn1 : Hid (1 ≤ n) := by show 1 ≤ n; omega
    have HP := hide (pairedLens_any a cap n l w hn h hm hok hs2)
    have HH := hide (And.intro h hs2)
    clear hn h hm hc hmm hu1 hu2 hcu hone hok hpl hs2
    have hmI3 : Hid (n ≤ 300) := (unhide HN).2.1
    generalize us l = U at *
    have hpw : Hid (∃ x, x = p2 mm) := ⟨_, rfl⟩
    generalize hPW : p2 mm = PW at *
    have HPW := hide hPW
    clear hPW hpw
    go_enter Try.func11, Try.ntmps11
    go_wp2_with fail
    refine (unhide HU).mono ?_
    rintro e x1 ⟨rfl, hx1⟩
    rw [hx1]
    clear hx1 x1
    go_wp2_with fail
    refine (unhide HP).mono ?_
    rintro e x2 ⟨rfl, ho, hb⟩
    go_wp2_with fail
    go_loopw [0, 6] (fun c v wr => ∃ (cur : List Int) (f ob cc : Nat) (ca : Option Addr), cur.length = n ∧ okC cur ∧ (seed cur cur.length).length ≤ PW ∧ 1 < (seed cur cur.length).length ∧ sumP cur ≤ f ∧ fitL ((mm : Int) + 1) l = fitF ((mm : Int) + 1) f cur ∧ c = .slice ca n cc ∧ v = .slice (some ⟨ob, 0, none⟩) n n ∧ w.heap.size ≤ ob ∧ IOwn wr ob (.slice (some ⟨ob, 0, none⟩) n n) (hufL cur) ∧ IRow wr ca cur ∧ Below w.heap.size w wr) (fun c _ wr => sumV c wr n)
    case atStart => exact ⟨l, sumP l, w.heap.size, cap, a, (unhide HN).1, (unhide HN).2.2.1, (unhide HN).2.2.2, (unhide HH).2, Nat.le_refl _, rfl, rfl, rfl, Nat.le_refl _, ho, (unhide HH).1.later hb, hb⟩
    case round =>
      obtain ⟨cur, f, ob, cc, ca, hcn, hcok, hcU, hc2, hcf, hfit, rfl, rfl, hob, hou, hcv, hbel⟩ := hrel
      clear ho hb
      have hlenh : (hufL cur).length = n := (hufL_len cur).trans hcn
      have HMo := hide (maxInt_any (some ⟨ob, 0, none⟩) n n (hufL cur) wr hlenh (hou.rowN hlenh) (unhide hn1) (unhide hmI3) (huf_pos hcok (by rw [hcn]; exact unhide hmI3) hc2))
      have hmost : Hid (fits (hufL cur) ((mm : Int) + 1) = decide (mostL (hufL cur) n ≤ (mm : Int) + 1)) := by show _ = _; unfold fits; rw [hlenh]
      have HQ := hide (And.intro hcn (And.intro hcok (And.intro hcU (And.intro hc2 (And.intro hcf hfit)))))
      have HO := hide (And.intro hou (And.intro hcv (And.intro hbel hob)))
      have HE := hide (eachHalf_any ca cc n cur wr hcn hcv (by have := unhide hmI3; omega) hcok)
      have HS := hide (sumV_eq (c := cc) hcn (unhide hn1) hcv)
      clear hcn hcok hcU hc2 hcf hfit hlenh hou hcv hbel hob
      generalize mostL (hufL cur) n = mo at *
      by_cases hbig : (mm : Int) + 1 < mo
      · have hnf : fits (hufL cur) ((mm : Int) + 1) = false := by rw [unhide hmost]; exact decide_eq_false (by omega)
        obtain ⟨hcn, hcok, hcU, hc2, hcf, hfit⟩ := unhide HQ
        rw [← unhide HPW] at hcU
        have hex := not_ones hcU hnf
        have hsum := (sum_half cur (okC_pos hcok)).2 hex
        obtain ⟨f', hff⟩ : ∃ f', f = f' + 1 := ⟨f - 1, by omega⟩
        have hfit2 : Hid (fitL ((mm : Int) + 1) l = fitF ((mm : Int) + 1) f' (halfL cur)) := by
          show _ = _
          rw [hfit, hff]
          simp only [fitF]
          rw [hnf]; rfl
        have hcf2 : Hid (sumP (halfL cur) ≤ f') := by show _ ≤ _; omega
        have HSL := hide hsum
        have hcok2 := hide (okC_half hcok)
        have hse := seed_half cur (fun i hi => (hcok i hi).1) cur.length (Nat.le_refl _)
        have hcU2 : Hid ((seed (halfL cur) (halfL cur).length).length ≤ PW ∧ 1 < (seed (halfL cur) (halfL cur).length).length) := by
          show _ ∧ _
          rw [halfL_len, hse, ← unhide HPW]
          exact ⟨hcU, hc2⟩
        have hcn2 : Hid ((halfL cur).length = n) := (halfL_len cur).trans hcn
        clear hcn hcok hcU hcf hfit hex hsum hff hse hc2
        go_wp2_with fail
        refine (unhide HMo).mono ?_
        rintro e x3 ⟨rfl, hx3⟩
        rw [hx3]
        clear hx3 x3
        go_wp2_with fail
        refine (unhide HE).mono ?_
        rintro e x4 ⟨v, rfl, ho4, hb4⟩
        obtain ⟨va, vc, rfl⟩ := ho4.formN (unhide hcn2)
        have hrow4 := ho4.rowN (unhide hcn2)
        have hB4 : Below w.heap.size w x4 := bnext (unhide HO).2.2.1 hb4
        have HP4 := hide (pairedLens_any va vc n (halfL cur) x4 (unhide hcn2) hrow4 (unhide hmI3) (unhide hcok2) (unhide hcU2).2)
        have HX4 := hide (And.intro ho4 (And.intro hB4 hrow4))
        clear ho4 hb4 hrow4 hB4
        go_wp2_with fail
        refine (unhide HP4).mono ?_
        rintro e x5 ⟨rfl, ho5, hb5⟩
        obtain ⟨ho4, hB4, hrow4⟩ := unhide HX4
        have hms : Hid (sumV (.slice va n vc) x5 n < sumV (.slice ca n cc) wr n) := by
          show sumV _ _ _ < sumV _ _ _
          rw [sumV_eq (unhide hcn2) (unhide hn1) (hrow4.later hb5), unhide HS]
          exact unhide HSL
        have HR := hide (And.intro ho5 (And.intro (hrow4.later hb5) (bnext hB4 hb5)))
        have hx4 : Hid (w.heap.size ≤ x4.heap.size) := hB4.size
        clear ho4 hB4 hrow4 ho5 hb5
        go_wp2
        go_roundw
        case rel => exact ⟨halfL cur, f', x4.heap.size, vc, va, unhide hcn2, unhide hcok2, (unhide hcU2).1, (unhide hcU2).2, unhide hcf2, unhide hfit2, rfl, rfl, unhide hx4, (unhide HR).1, (unhide HR).2.1, (unhide HR).2.2⟩
        case measure => exact unhide hms
      · have hnf : fits (hufL cur) ((mm : Int) + 1) = true := by rw [unhide hmost]; exact decide_eq_true (by omega)
        have hres : Hid (fitL ((mm : Int) + 1) l = hufL cur) := by
          show _ = _
          rw [(unhide HQ).2.2.2.2.2]
          cases f with
          | zero => rfl
          | succ f => simp only [fitF]; rw [hnf]; rfl
        go_wp2_with fail
        refine (unhide HMo).mono ?_
        rintro e x3 ⟨rfl, hx3⟩
        rw [hx3]
        clear hx3 x3
        obtain ⟨hou, hcv, hbel, hob⟩ := unhide HO
        go_wp2
        go_ret
        exact ⟨⟨_, rfl, by rw [unhide hres]; exact hou.mono hob⟩, hbel⟩

theorem implLensOf_any (a : Option Addr) (cap n : Nat) (l : List Int) (m : Int) (w : World) (hn : l.length = n) (h : IRow w a l) (hm : n ≤ 1048576) :
    Calls Try.prog 11 #[.slice a n cap, .int .i64 m] w fun e w' => (∃ v, e = .returned v ∧ IOwn w' w.heap.size v (lensOfL l m)) ∧ Below w.heap.size w w' := by
  cases hok : lofOk l m
  · refine (implLensOf_nil a cap n l m w hn h hm hok).mono ?_
    rintro e w' ⟨rfl, hb⟩
    refine ⟨⟨_, rfl, ?_⟩, hb⟩
    unfold lensOfL
    rw [hok]
    exact World.ownsRow_nil _ _ _ _
  · have hk := hok
    unfold lofOk at hk
    simp only [Bool.and_eq_true, decide_eq_true_eq] at hk
    obtain ⟨⟨⟨h3, hmb⟩, hin⟩, hus⟩ := hk
    obtain ⟨m1, m2⟩ := inB_true.1 hmb
    obtain ⟨mm, rfl⟩ : ∃ mm : Nat, m = (mm : Int) + 1 := ⟨(m - 1).toNat, by omega⟩
    have e3 : ((mm : Int) + 1).toNat = mm + 1 := by omega
    rw [e3, p2_half] at hus
    obtain ⟨u1, u2⟩ := inB_true.1 hus
    have := implLensOf_yes a cap n mm l w hn h (by omega) hin (by omega) (by omega) (by omega)
    unfold lensOfL
    rw [hok]
    exact this

end Go.Proofs.Ytkkhaleiehnihaa
