/- Contracts of the draw of a tree. -/
import Derived.Test.YtjldafkcolmfeaaDoorTg4
import Derived.Test.YtjldafkcolmfeaaDoorTf3
import Derived.Test.YtjldafkcolmfeaaDoorKb1
import Derived.Test.YtjldafkcolmfeaaDoorRk1
namespace Go.Proofs.YtjldafkcolmfeaaDoor
open Go.RowKit
set_option maxRecDepth 100000

theorem fown_kn {w w' : World} {base b : Nat} {v : Value} {l : List Fl} (h : FOwn w base v l) (hk : Kn b w w') (hb : b < base) : FOwn w' base v l := by
  refine ⟨h.1, ?_⟩
  rcases h.2 with hn | ⟨g, cap, cur, rfl, hbg, hgg, rest⟩
  · exact .inl hn
  · have hlt := (Array.getElem?_eq_some_iff.1 hgg).1
    refine .inr ⟨g, cap, cur, rfl, hbg, ?_, rest⟩
    rw [hk.2.1 g hlt (by omega)]
    exact hgg
theorem fown_some {w : World} {base n : Nat} {v : Value} {l : List Fl} (hn : l.length = n) (h : FOwn w base v l) (hv : v ≠ .slice none 0 0) : ∃ g cap, v = .slice (some ⟨g, 0, none⟩) n cap ∧ n ≤ cap := by
  subst hn
  rcases h.2 with ⟨e, _⟩ | ⟨g, cap, cur, e, _, _, h1, _⟩
  · exact absurd e hv
  · exact ⟨g, cap, e, h1⟩
theorem tiny_small {l : List Fl} {n : Nat} (h : TinyF l) (hn : l.length = n) : FSmall l n := fun i hi => by
  have hin : l.getD i default ∈ l := by simp [List.getD, show i < l.length by omega]
  have := h _ hin
  unfold pA
  omega
theorem kn_below {b : Nat} {w w' : World} (h : Below w.heap.size w w') (hb : b < w.heap.size) : Kn b w w' := ⟨h.mono (Nat.le_of_lt hb), fun k hk _ => h.block k hk, h.size⟩
theorem kn_refl (b : Nat) (w : World) : Kn b w w := ⟨Below.refl _ _, fun _ _ _ => rfl, Nat.le_refl _⟩
theorem ok_tiny : ∀ v ∈ okNames, v.size ≤ 1000 := by decide
theorem no_tiny : ∀ v ∈ noNames ++ okNames, v.size ≤ 1000 := by decide
set_option maxHeartbeats 1600000 in
theorem l11Tree_any (B b m : Nat) (w : World) (h : Rd w B b m) (hm : m ≤ 70000) :
    Calls Tryd.prog 13 #[.pointer (some ⟨b, 0, none⟩)] w fun e w' => (∃ v l, e = .returned v ∧ l.length ≤ 4 ∧ FOwn w' (b + 1) v l ∧ v ≠ .slice none 0 0 ∧ TinyF l) ∧ Rd w' B b (m + 300) ∧ Kn b w w' := by
  have hlt := h.lt
  have R0 : Hid (Rd (w.alloc (.cells #[] 31)) B b m) := h.alloc _
  have O0 : Hid (FOwn (w.alloc (.cells #[] 31)) (b + 1) (.slice (some ⟨w.heap.size, 0, none⟩) 0 0) []) := World.ownsRow_lit w #[] 0 hlt (by unfold maxLen; omega) rfl
  have K0 : Hid (Kn b w (w.alloc (.cells #[] 31))) := kn_alloc w _ hlt
  clear h
  go_enter Tryd.func13, Tryd.ntmps13
  go_wp2_with fail
  refine (pick_any B b m _ _ (unhide R0) (by omega) (by omega) (by omega)).mono ?_
  rintro e w1 ⟨r, rfl, r0, r1, hrd1, hon1⟩
  obtain ⟨n0, rfl⟩ := Int.eq_ofNat_of_zero_le r0
  have O1 := hide (fown_kn (unhide O0) hon1.kn (Nat.lt_succ_self _))
  have K1 := hide ((unhide K0).trans hon1.kn)
  have R1 := hide hrd1
  have hn4 : n0 ≤ 4 := by omega
  clear R0 O0 K0 hrd1 hon1 r0 r1
  go_wp2_with fail
  go_loopw [3, 4, 5] (fun v i _ wr => ∃ (l : List Fl) (k : Nat), i = .int .i64 k ∧ k ≤ 4 ∧ l.length + k ≤ 4 ∧ FOwn wr (b + 1) v l ∧ v ≠ .slice none 0 0 ∧ TinyF l ∧ Rd wr B b (m + 1 + (4 - k) * 60) ∧ Kn b w wr) (fun _ i _ _ => (intOf i).toNat)
  case atStart => exact ⟨[], n0, rfl, hn4, by simpa using hn4, unhide O1, by simp, fun e he => by simp at he, (unhide R1).mono (by omega), unhide K1⟩
  case round =>
    obtain ⟨l, k, rfl, hk, hlk, ho, hv, hT, hrd, hkn⟩ := hrel
    clear O1 K1 R1
    obtain ⟨n, hn⟩ : ∃ n, l.length = n := ⟨_, rfl⟩
    obtain ⟨g, cap, rfl, hcap⟩ := fown_some hn ho hv
    have hkI : (k : Int) ≤ 4 := by omega
    have HX := hide (And.intro ho (And.intro hT (And.intro hrd (And.intro hkn (And.intro hn hlk)))))
    have hltr := hrd.lt
    clear ho hT hrd hkn hn hlk hv
    by_cases hp : 0 < k
    · have hpI : (0 : Int) < (k : Int) := by omega
      go_wp2_with fail
      refine (l11Name_any B b _ _ (unhide HX).2.2.1 (by omega)).mono ?_
      rintro e w2 ⟨nm, hnm, rfl, hrd2, hkn2⟩
      have hnt := ok_tiny nm hnm
      have HX2 := hide (And.intro (fown_kn (unhide HX).1 hkn2 (Nat.lt_succ_self _)) (And.intro hrd2 ((unhide HX).2.2.2.1.trans hkn2)))
      clear hrd2 hkn2 hnm
      go_wp2_with fail
      refine (l11TextK_any B b _ _ (unhide HX2).2.1 (by omega)).mono ?_
      rintro e w3 ⟨⟨tx, rfl, htx⟩, hrd3, hkn3⟩
      have HX3 := hide (And.intro (fown_kn (unhide HX2).1 hkn3 (Nat.lt_succ_self _)) (And.intro hrd3 ((unhide HX2).2.2.trans hkn3)))
      have hlt3 := hrd3.lt
      clear hrd3 hkn3 HX2
      have hO3 := (unhide HX3).1
      rw [← (unhide HX).2.2.2.2.1] at hO3
      have HC := hide (l10Put_any g cap n l nm tx w3 (unhide HX).2.2.2.2.1 (own_fblk hO3) (by have := unhide HX; omega) hcap (unhide HX).2.1 hnt (by omega))
      clear hO3
      go_wp2_with fail
      refine (unhide HC).mono ?_
      rintro e w4 ⟨⟨v4, l4, rfl, hl4, ho4, hv4, hT4⟩, hb4⟩
      obtain ⟨n4, hn4'⟩ : ∃ n4, l4.length = n4 := ⟨_, rfl⟩
      obtain ⟨g4, cap4, rfl, hcap4⟩ := fown_some hn4' ho4 hv4
      have k4 := kn_below hb4 hlt3
      have HX4 := hide (And.intro (GOwn.mono ho4 hlt3) (And.intro (fown_kn (unhide HX3).1 k4 (Nat.lt_succ_self _)) (And.intro ((unhide HX3).2.1.kept (hb4.mono hlt3)) (And.intro ((unhide HX3).2.2.trans k4) (And.intro hT4 (And.intro hn4' hl4))))))
      have HT := hide (specTreeOk_any (some ⟨g4, 0, none⟩) cap4 l4 n4 hn4' w4 (fown_row hn4' ho4) (by have := unhide HX; omega) (tiny_small hT4 hn4'))
      have hlt4 : b < w4.heap.size := (unhide HX4).2.2.1.lt
      clear ho4 hv4 hT4 hb4 k4 HC HX3 hn4' hl4
      go_wp2_with fail
      refine (unhide HT).mono ?_
      rintro e w5 ⟨rfl, hb5⟩
      have k5 := kn_below hb5 hlt4
      have HX5 := hide (And.intro (fown_kn (unhide HX4).1 k5 (Nat.lt_succ_self _)) (And.intro (fown_kn (unhide HX4).2.1 k5 (Nat.lt_succ_self _)) (And.intro ((unhide HX4).2.2.1.kept (hb5.mono hlt4)) ((unhide HX4).2.2.2.1.trans k5))))
      have HX6 := hide (unhide HX4).2.2.2.2
      clear hb5 k5 HX4 HT
      cases hB : treeB l4
      · go_wp2_with fail
        go_roundw
        case rel => exact ⟨l, k - 1, by go_num, by omega, by have := unhide HX; omega, (unhide HX5).2.1, by simp, (unhide HX).2.1, (unhide HX5).2.2.1.mono (by omega), (unhide HX5).2.2.2⟩
        case measure => simp [intOf]; omega
      · go_wp2_with fail
        go_roundw
        case rel => exact ⟨l4, k - 1, by go_num, by omega, by have := unhide HX; have := unhide HX6; omega, (unhide HX5).1, by simp, (unhide HX6).1, (unhide HX5).2.2.1.mono (by omega), (unhide HX5).2.2.2⟩
        case measure => simp [intOf]; omega
    · have hpI : ¬ (0 : Int) < (k : Int) := by omega
      go_wp2
      go_ret
      refine ⟨⟨_, rfl, l, ?_, (unhide HX).1, ?_, (unhide HX).2.1⟩, (unhide HX).2.2.1.mono (by omega), (unhide HX).2.2.2.1⟩
      · have := unhide HX; omega
      · simp

end Go.Proofs.YtjldafkcolmfeaaDoor
