/- The model's TreeOk and the program's. -/
import Derived.Test.YtjldafkcolmfeaaDoorTf1
import Derived.Test.YtjldafkcolmfeaaDoorNk4
import Derived.Lib.QuietBelow
import Derived.Laws.Cover1
namespace Go.Proofs.YtjldafkcolmfeaaDoor
open Go.RowKit

/-- What is known of the sizes of paths and texts. -/
def FSmall (l : List Fl) (n : Nat) : Prop := ∀ i, i < n → (pA l i).size ≤ 1048576 ∧ ((l.getD i default).t.size : Int) ≤ 9223372036854775807

theorem fbox {w w1 : World} {x y : Value} {t : TypeId} (hb : Below (w.alloc (.cells #[x, y] t)).heap.size (w.alloc (.cells #[x, y] t)) w1) : w1.cell? ⟨w.heap.size, 0, none⟩ = some x ∧ w1.cell? ⟨w.heap.size, 1, none⟩ = some y ∧ w.heap.size < w1.heap.size ∧ Below w.heap.size w w1 := by
  have hz : w.heap.size < (w.alloc (.cells #[x, y] t)).heap.size := by simp
  exact ⟨(hb.cell (p := ⟨w.heap.size, 0, none⟩) hz).trans (by simp), (hb.cell (p := ⟨w.heap.size, 1, none⟩) hz).trans (by simp), Nat.lt_of_lt_of_le hz hb.size, ((Below.refl _ _).alloc (Nat.le_refl _) _).trans (hb.mono (by simp))⟩

set_option maxHeartbeats 4000000 in
theorem implTreeOk_any (a : Option Addr) (cap : Nat) (l : List Fl) (n : Nat) (hn : l.length = n) (m : Int) (w : World) (h : FRow w a l) (hl : (n : Int) ≤ 1048576) (hcap : (n : Int) ≤ (cap : Int)) (hs : FSmall l n)
    (hm : w.cell? ⟨0, 0, none⟩ = some (.int .i64 m)) :
    Calls Tryd.prog 5 #[.slice a n cap] w fun e w' => e = .returned (.bool (treeB l)) ∧ Below w.heap.size w w' := by
  have HS := hide hs
  have HR := hide h
  have HTN := hide (fun i (hi : i < l.length) => @treeI_no l i hi)
  have HTY := hide (@treeI_yes l)
  have HON := hide (fun i j (hj : j < i) => @oneI_no l i j hj)
  have HOY := hide (fun i => @oneI_yes l i)
  have HSelf : Hid (∀ i, selfT l i = (nameB (pA l i).data.toList && decide ((l.getD i default).t.size ≤ 300))) := fun _ => rfl
  have HSN : Hid (∀ i, selfT l i = false → oneI l i = false) := fun i e => by show oneI l i = false; unfold oneI; rw [e]; rfl
  have HPair : Hid (∀ i j, pairI l i j = ((ltP (pA l j) (pA l i) || (pA l j).toList == (pA l i).toList) && !clashL (pA l j).data.toList (pA l i).data.toList)) := fun _ _ => rfl
  rw [hn] at HTN HTY
  have HN := hide hn
  have CM := hide (fun W (hb : Below w.heap.size w W) => (hb.cell (p := ⟨0, 0, none⟩) (World.block_lt_of_cell? _ _ hm)).trans hm)
  clear h hs hn hm
  by_cases h8 : (n : Int) ≤ 8
  · go_enter Tryd.func5, Tryd.ntmps5
    go_wp2_with fail
    go_loopw [3, 4, 6, 12] (fun _ _ _ i wr => ∃ k : Nat, k ≤ n ∧ i = .int .i64 k ∧ (∀ j, j < k → oneI l j = true) ∧ Below w.heap.size w wr) (fun _ _ _ i _ => n - (intOf i).toNat)
    case atStart => exact ⟨0, Nat.zero_le _, rfl, fun j hj => absurd hj (by omega), Below.refl _ _⟩
    case round =>
      obtain ⟨k, hk, rfl, hall, hbel⟩ := hrel
      have HALL := hide hall
      have HBel := hide hbel
      clear hall hbel
      by_cases hkn : k < n
      · have hkI : (k : Int) < (n : Int) := by omega
        have hkc : (k : Int) ≤ (cap : Int) := by omega
        obtain ⟨g, o, rfl, hg, hc⟩ := (unhide HR).later (unhide HBel) (by have := unhide HN; omega)
        obtain ⟨c0, c1⟩ := hc k (by have := unhide HN; omega)
        have HKN := hide hkn
        have HSk := hide (unhide HS k hkn)
        have HTk := hide (unhide HTN k hkn)
        have HSelfk := hide (unhide HSelf k)
        have HSNk := hide (unhide HSN k)
        have HONk := hide (unhide HON k)
        have HOYk := hide (unhide HOY k)
        have HNX : Hid (oneI l k = true → ∀ j, j < k + 1 → oneI l j = true) := by
          intro e j hj
          by_cases hjk : j = k
          · rw [hjk]; exact e
          · exact unhide HALL j (by omega)
        have HCl := hide (fun j (hj : j < n) W => namesClash_any (pA l j) (pA l k) W (by have := (unhide HS j hj).1; omega) (by have := (unhide HS k hkn).1; omega))
        have HNm : Hid (∀ W, Below w.heap.size w W → ∀ j, j < n → FlAt W g (o + j * 2) (l.getD j default)) := by
          intro W hW j hj
          exact ((unhide HR).later hW).at j (by have := unhide HN; omega)
        have HPk := hide (unhide HPair k)
        have e0 : (l.getD k default).p = pA l k := rfl
        rw [e0] at c0
        have htI := (unhide HSk).2
        clear hc hk HALL hkn e0
        generalize hT : (l.getD k default).t = T at *
        generalize hP : pA l k = P at *
        clear hT hP
        go_wp2_with fail
        refine (implNameOk_any P m _ (unhide HSk).1 (unhide CM _ ((unhide HBel).alloc (unhide HBel).size _))).mono ?_
        rintro e x1 ⟨rfl, hb1⟩
        obtain ⟨b0, b1, hbz, hb2⟩ := fbox hb1
        have HB1 := hide (bnext (unhide HBel) hb2)
        clear hb1 hb2
        generalize wr.heap.size = B at *
        cases hnm : nameB P.data.toList
        · have HP := hide (unhide HTk (unhide HSNk (by rw [unhide HSelfk, hnm]; rfl)))
          go_wp2
          go_ret
          exact ⟨ret_bool (unhide HP).symm, unhide HB1⟩
        · by_cases h300 : (T.size : Int) ≤ 300
          · have HSelfT : Hid (selfT l k = true) := by show selfT l k = true; rw [unhide HSelfk, hnm]; simp; omega
            go_wp2_with fail
            go_loopw [6, 31] (fun _ q wq => ∃ r : Nat, r ≤ k ∧ q = .int .i64 r ∧ (∀ j, j < r → pairI l k j = true) ∧ wq.cell? ⟨B, 0, none⟩ = some (.string P) ∧ B < wq.heap.size ∧ Below w.heap.size w wq) (fun _ q _ => k - (intOf q).toNat)
            case atStart => exact ⟨0, Nat.zero_le _, rfl, fun j hj => absurd hj (by omega), b0, hbz, unhide HB1⟩
            case round =>
              obtain ⟨r, hr, rfl, hfr, d0, dz, hbq⟩ := hrel
              have HFR := hide hfr
              have HBQ := hide hbq
              clear hfr hbq b0 b1 hbz
              by_cases hrk : r < k
              · have hrI : (r : Int) < (k : Int) := by omega
                obtain ⟨p0, p1⟩ := unhide HNm _ (unhide HBQ) r (by have := unhide HKN; omega)
                have HClr := hide (unhide HCl r (by have := unhide HKN; omega))
                have HPr := hide (unhide HPk r)
                have HOr := hide (unhide HONk r hrk)
                have HRK := hide hrk
                have HFX : Hid (pairI l k r = true → ∀ j, j < r + 1 → pairI l k j = true) := by
                  intro e j hj
                  by_cases hjm : j = r
                  · rw [hjm]; exact e
                  · exact unhide HFR j (by omega)
                have e1 : (l.getD r default).p = pA l r := rfl
                rw [e1] at p0
                clear hr HFR e1
                generalize pA l r = R at *
                generalize (l.getD r default).t = U at *
                clear c0 c1
                have HB3 := hide ((unhide HBQ).alloc (unhide HBQ).size (.cells #[.string R, .string U] 31))
                have dA : (wr.alloc (.cells #[.string R, .string U] 31)).cell? ⟨B, 0, none⟩ = some (.string P) := by rw [World.cell?_alloc_past _ _ _ dz]; exact d0
                have dB : B < (wr.alloc (.cells #[.string R, .string U] 31)).heap.size := by simp; omega
                have HD := hide (And.intro dA dB)
                clear dA dB
                cases h1 : Op.bytesLess R.toList P.toList
                · by_cases h2 : R.toList = P.toList
                  · have h2b : (R.toList == P.toList) = true := by simpa using h2
                    have HC : Hid (clashL R.data.toList P.data.toList = true) := by
                      show clashL R.data.toList P.data.toList = true
                      unfold clashL
                      rw [list_of_ba.1 h2]; simp
                    have HP := hide (unhide HTk (unhide HOr (by rw [unhide HPr, unhide HC]; simp)))
                    clear h2
                    go_wp2_with fail
                    refine (unhide HClr _).mono ?_
                    rintro e x2 ⟨rfl, hb3⟩
                    rw [hb3, unhide HC]
                    clear hb3
                    go_wp2
                    go_ret
                    exact ⟨ret_bool (unhide HP).symm, unhide HB3⟩
                  · have h2b : (R.toList == P.toList) = false := by simpa using h2
                    have HP := hide (unhide HTk (unhide HOr (by rw [unhide HPr]; unfold ltP; rw [h1, h2b]; rfl)))
                    go_wp2
                    go_ret
                    exact ⟨ret_bool (unhide HP).symm, unhide HB3⟩
                · have HL : Hid (ltP R P = true) := h1
                  go_wp2_with fail
                  refine (unhide HClr _).mono ?_
                  rintro e x2 ⟨rfl, hb3⟩
                  rw [hb3]
                  clear hb3
                  cases hcl : clashL R.data.toList P.data.toList
                  · have HX := hide (unhide HFX (by rw [unhide HPr, unhide HL, hcl]; rfl))
                    go_wp2
                    go_roundw
                    case rel => exact ⟨r + 1, by have := unhide HRK; omega, by go_num, unhide HX, (unhide HD).1, (unhide HD).2, unhide HB3⟩
                    case measure => have := unhide HRK; simp [intOf]; omega
                  · have HP := hide (unhide HTk (unhide HOr (by rw [unhide HPr, hcl]; simp)))
                    go_wp2
                    go_ret
                    exact ⟨ret_bool (unhide HP).symm, unhide HB3⟩
              · obtain rfl : r = k := by omega
                have HX := hide (unhide HNX ((unhide HOYk (unhide HFR)).trans (unhide HSelfT)))
                go_wp2
                go_roundw
                case rel => exact ⟨r + 1, by have := unhide HKN; omega, by go_num, unhide HX, unhide HBQ⟩
                case measure => have := unhide HKN; simp [intOf]; omega
          · have h300' : ¬ T.size ≤ 300 := by omega
            have HP := hide (unhide HTk (unhide HSNk (by rw [unhide HSelfk, hnm]; simp; omega)))
            go_wp2
            go_ret
            exact ⟨ret_bool (unhide HP).symm, unhide HB1⟩
      · obtain rfl : k = n := by omega
        have HP := hide (unhide HTY (unhide HALL))
        go_wp2
        go_ret
        exact ⟨ret_bool (by rw [unhide HP]; simp; omega), unhide HBel⟩
  · have HP : Hid (treeB l = false) := by
      show treeB l = false
      unfold treeB
      rw [unhide HN]
      have : decide (n ≤ 8) = false := by simp; omega
      rw [this]; simp
    go_enter Tryd.func5, Tryd.ntmps5
    go_wp2
    go_ret
    exact ⟨ret_bool (unhide HP).symm, Below.refl _ _⟩

end Go.Proofs.YtjldafkcolmfeaaDoor
